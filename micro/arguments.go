package micro

import (
	"iter"

	"burnish/api"
	"burnish/ival"
)

// limit is the least and the greatest number that something may be.
type limit struct{ least, greatest float64 }

// arguments yields the components of both directions, and alpha where there is one, each with its limit.
func arguments(in, out api.Vec, alpha ...api.Iv) iter.Seq2[api.Iv, limit] {
	across, upward, rough := limit{-1, 1}, limit{0, 1}, limit{api.MinAlpha, 1}
	return func(yield func(api.Iv, limit) bool) {
		for _, d := range [2]api.Vec{in, out} {
			if !yield(d.X, across) || !yield(d.Y, across) || !yield(d.Z, upward) {
				return
			}
		}
		for _, a := range alpha {
			if !yield(a, rough) {
				return
			}
		}
	}
}

// check returns the error of what is given: all has to be right before any is held against its limit.
func check(given iter.Seq2[api.Iv, limit]) api.Errno {
	for a := range given {
		if !ival.Right(a) {
			return api.ErrIv
		}
	}
	for a, l := range given {
		if a.Lo < l.least || a.Hi > l.greatest {
			return api.ErrArg
		}
	}
	return api.OK
}
