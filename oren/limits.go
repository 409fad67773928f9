package oren

import (
	"burnish/api"
	"burnish/ival"
)

// The places that arguments have among those that are checked.
const (
	rhoAt = iota
	sigmaAt
	inAt
	outAt
	dotAt
	places
)

// limit is the least and the greatest number that something may be.
type limit struct{ least, greatest float64 }

func limits() [places]limit {
	part := limit{0, 1}
	return [places]limit{rhoAt: part, sigmaAt: part, inAt: part, outAt: part, dotAt: {-1, 1}}
}

// check returns the error of what is given: all have to be right before any is held against its limit. A place that is left free is 0, which is within all limits.
func check(given [places]api.Iv) api.Errno {
	for _, a := range given {
		if !ival.Right(a) {
			return api.ErrIv
		}
	}
	for i, l := range limits() {
		if given[i].Lo < l.least || given[i].Hi > l.greatest {
			return api.ErrArg
		}
	}
	return api.OK
}

// clamped returns a with each end that is beyond the limit moved there.
func (l limit) clamped(a api.Iv) api.Iv {
	return api.Iv{Lo: l.moved(a.Lo), Hi: l.moved(a.Hi)}
}

func (l limit) moved(x float64) float64 {
	return min(max(x, l.least), l.greatest)
}
