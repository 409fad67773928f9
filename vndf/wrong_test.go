package vndf_test

import (
	"math"
	"testing"

	"burnish/api"
)

// arguments is what is given by intervals: X, Y and Z of out, alpha, and for Density X, Y and Z of the normal.
type arguments [7]api.Iv

const (
	outZ    = 2
	alphaAt = 3
	normalZ = 6

	placesOfDraw = 4
)

func (x arguments) with(place int, a api.Iv) arguments {
	x[place] = a
	return x
}

func (x arguments) drawn(u1, u2 uint64) drawn {
	return drawn{box(x[0], x[1], x[2]), x[alphaAt], u1, u2}
}

func (x arguments) asked() asked {
	return asked{box(x[0], x[1], x[2]), box(x[4], x[5], x[6]), x[alphaAt]}
}

func given(out api.Vec, alpha api.Iv, normal api.Vec) arguments {
	return arguments{out.X, out.Y, out.Z, alpha, normal.X, normal.Y, normal.Z}
}

// slanted has neither an error nor, whatever else is within the limits in one place, one of the formulas.
func slanted() arguments { return given(at(0.5, -0.5, 0.875), single(0.5), at(0.5, 0.25, 0.875)) }

// others is arguments that are within all limits: without an error, and with one of the formulas.
func others() []arguments {
	return []arguments{
		slanted(), given(up(), single(1), up()), given(at(0, 0, 0), single(minAlpha), at(0, 0, 0)),
		given(at(tiny, 0, 1), iv(minAlpha, 1), at(-1, 1, 1)), given(at(1, 0, power(-520)), single(0.5), up()),
	}
}

// limits is what is within the limits of a place, and what is beyond.
func limits(place int) (within, beyond []api.Iv) {
	low, high := -1.0, 1.0
	switch place {
	case outZ, normalZ:
		low = 0
	case alphaAt:
		low = minAlpha
		beyond = []api.Iv{single(0), single(0.03), single(tiny), iv(0, 1)}
	}
	within = []api.Iv{
		single(low), single(above(low)), single(below(high)), single(high), iv(low, above(low)), iv(below(high), high), single(0.5), iv(0.5, high),
	}
	beyond = append(beyond,
		single(below(low)), single(above(high)), iv(below(low), low), iv(below(low), high), iv(high, above(high)), iv(low, above(high)),
		iv(below(low), above(high)), single(low-1), single(high+1), single(-top), single(top), iv(-top, top), iv(-top, low), iv(high, top),
	)
	return within, beyond
}

func TestLimitsP131(t *testing.T) {
	for place := range placesOfDraw {
		within, beyond := limits(place)
		for _, a := range within {
			x := slanted().with(place, a).drawn(1<<62, 1<<61)
			if n, err := x.normal(); err != api.OK || n.Z.Hi <= 0 {
				t.Errorf("Draw(%v, %v): %v, %d", x.out, x.alpha, n, err)
			}
		}
		for _, a := range beyond {
			for _, other := range others() {
				drawFails(t, other.with(place, a).drawn(half, last), api.ErrArg)
			}
		}
	}
}

func TestLimitsP132(t *testing.T) {
	for place := range slanted() {
		within, beyond := limits(place)
		for _, a := range within {
			x := slanted().with(place, a).asked()
			want := api.OK
			if place == outZ && a.Lo <= tiny {
				want = api.ErrZero
			}
			if d, err := x.density(); err != want || (err == api.OK) != (d.Hi > 0) {
				t.Errorf("Density(%v, %v, %v): %v, %d", x.out, x.normal, x.alpha, d, err)
			}
		}
		for _, a := range beyond {
			for _, other := range others() {
				densityFails(t, other.with(place, a).asked(), api.ErrArg)
			}
		}
	}
}

// wrongOnes is what is not a right interval; most of them would be within the limits, if they were one.
func wrongOnes() []api.Iv {
	l := []api.Iv{iv(1, 0), iv(1, 0.5), iv(0.5, below(0.5)), iv(tiny, 0), iv(0, -tiny), iv(top, -top), iv(2, 1), iv(above(1), 1)}
	for _, bad := range []float64{
		math.NaN(), -math.NaN(), math.Float64frombits(0x7ff0000000000001), math.Float64frombits(math.MaxUint64),
		math.Inf(1), math.Inf(-1), math.Copysign(0, -1),
	} {
		l = append(l, single(bad), iv(bad, 1), iv(0, bad), iv(0.5, bad), iv(bad, 2), iv(-1, bad))
	}
	return l
}

// eachWrong does something with arguments of which one is not right, for the first places: that comes ahead of another one that is beyond its limits, be it ahead or behind, and of the formulas' errors.
func eachWrong(places int, do func(x arguments)) {
	for _, bad := range wrongOnes() {
		for place := range places {
			for _, other := range others() {
				wrong := other.with(place, bad)
				do(wrong)
				for second := range places {
					if second != place {
						do(wrong.with(second, single(2)))
						do(wrong.with(second, bad))
					}
				}
			}
		}
	}
}

func TestWrongOnesP131(t *testing.T) {
	eachWrong(placesOfDraw, func(x arguments) { drawFails(t, x.drawn(1<<62, half), api.ErrIv) })
}

func TestWrongOnesP132(t *testing.T) {
	eachWrong(len(arguments{}), func(x arguments) { densityFails(t, x.asked(), api.ErrIv) })
}
