package trig_test

import (
	"math"
	"testing"

	"burnish/api"
	"burnish/trig"
)

const tiny = math.SmallestNonzeroFloat64

func power(e int) float64 { return math.Ldexp(1, e) }

func iv(lo, hi float64) api.Iv { return api.Iv{Lo: lo, Hi: hi} }

func single(x float64) api.Iv { return iv(x, x) }

func below(x float64) float64 { return math.Nextafter(x, -1) }

func above(x float64) float64 { return math.Nextafter(x, 2) }

// same reports whether two intervals have the same bits, so that -0 is not 0.
func same(a, b api.Iv) bool {
	return math.Float64bits(a.Lo) == math.Float64bits(b.Lo) && math.Float64bits(a.Hi) == math.Float64bits(b.Hi)
}

// edges is the numbers at which a quarter begins, or one of both turns back, with those next to them, and small ones.
func edges() []float64 {
	l := []float64{
		0, tiny, 2 * tiny, 3 * tiny, power(-1022) - tiny, power(-1022), power(-1022) + tiny, power(-600), power(-540), power(-537), power(-500), power(-60), power(-27), 1e-10, 1e-3,
		below(1), below(below(1)), 1,
	}
	for i := 1; i < 8; i++ {
		x := float64(i) / 8
		l = append(l, below(below(x)), below(x), x, above(x), above(above(x)))
	}
	return l
}

func TestExamplesP41(t *testing.T) {
	for _, c := range []struct{ u, sine, cosine api.Iv }{
		{single(0), single(0), single(1)}, {single(0.25), single(1), single(0)}, {single(0.5), single(0), single(-1)}, {single(0.75), single(-1), single(0)}, {single(1), single(0), single(1)},
		{iv(0, 1), iv(-1, 1), iv(-1, 1)}, {iv(0, 0.25), iv(0, 1), iv(0, 1)}, {iv(0.25, 0.5), iv(0, 1), iv(-1, 0)}, {iv(0.5, 0.75), iv(-1, 0), iv(-1, 0)}, {iv(0.75, 1), iv(-1, 0), iv(0, 1)},
		{iv(0, 0.5), iv(0, 1), iv(-1, 1)}, {iv(0.25, 0.75), iv(-1, 1), iv(-1, 0)}, {iv(0.5, 1), iv(-1, 0), iv(-1, 1)}, {iv(0, 0.75), iv(-1, 1), iv(-1, 1)}, {iv(0.25, 1), iv(-1, 1), iv(-1, 1)},
	} {
		if sine, cosine, err := trig.SinCos(c.u); !same(sine, c.sine) || !same(cosine, c.cosine) || err != api.OK {
			t.Errorf("SinCos(%v): %v, %v, %d; want %v, %v", c.u, sine, cosine, err, c.sine, c.cosine)
		}
	}
}

func TestOneTenthToThreeTenthsP41(t *testing.T) {
	sine, cosine, err := trig.SinCos(iv(0.1, 0.3))
	if sine.Hi != 1 || sine.Lo < 0.58 || sine.Lo > 0.59 || cosine.Lo >= 0 || cosine.Hi <= 0 || err != api.OK {
		t.Errorf("SinCos(0.1 to 0.3): %v, %v, %d", sine, cosine, err)
	}
}

// Where one of both turns back, its 1 or -1 belongs to it as soon as an end of u is there, and no further end of u makes any more of it.
func TestTurningBackP41(t *testing.T) {
	for _, x := range []float64{0.01, 0.1, 0.125, 0.2, 0.24} {
		for _, y := range []float64{0.01, 0.1, 0.125, 0.2, 0.24} {
			for _, c := range []struct {
				at, want float64
				sine     bool
			}{{0.25, 1, true}, {0.5, -1, false}, {0.75, -1, true}} {
				for _, u := range []api.Iv{iv(c.at-x, c.at), iv(c.at-x, c.at+y), iv(c.at, c.at+y)} {
					a, b, err := trig.SinCos(u)
					if !c.sine {
						a, b = b, a
					}
					if (c.want == 1) != (a.Hi == 1) || (c.want == -1) != (a.Lo == -1) || b.Lo <= -1 || b.Hi >= 1 || err != api.OK {
						t.Errorf("SinCos(%v): %v and %v, %d", u, a, b, err)
					}
				}
				for _, u := range []api.Iv{single(c.at - x), single(c.at + x), iv(c.at-0.24, c.at-0.01), iv(c.at+0.01, c.at+0.24)} {
					a, b, err := trig.SinCos(u)
					if a.Lo <= -1 || a.Hi >= 1 || b.Lo <= -1 || b.Hi >= 1 || err != api.OK {
						t.Errorf("SinCos(%v): %v and %v, %d", u, a, b, err)
					}
				}
			}
		}
	}
}

func TestWrongIntervalsP41(t *testing.T) {
	l := []api.Iv{
		iv(0.5, 1.5), iv(-0.5, 0.5), iv(-tiny, 0), iv(-tiny, 1), iv(0, above(1)), iv(1, above(1)), single(above(1)), single(-tiny), single(-1), single(2), iv(-1, 2), iv(-2, -1), iv(2, 3),
		single(math.MaxFloat64), iv(-math.MaxFloat64, math.MaxFloat64), iv(1, 0), iv(0.5, 0.25), iv(tiny, 0), iv(1, below(1)),
	}
	for _, bad := range []float64{
		math.NaN(), -math.NaN(), math.Float64frombits(0x7ff0000000000001), math.Float64frombits(math.MaxUint64), math.Inf(1), math.Inf(-1), math.Copysign(0, -1),
	} {
		l = append(l, single(bad), iv(bad, 0), iv(bad, 0.5), iv(bad, 1), iv(0, bad), iv(0.5, bad), iv(1, bad), iv(-1, bad), iv(bad, 2))
	}
	for _, u := range l {
		if sine, cosine, err := trig.SinCos(u); !same(sine, api.Iv{}) || !same(cosine, api.Iv{}) || err != api.ErrArg {
			t.Errorf("SinCos(%v): %v, %v, %d", u, sine, cosine, err)
		}
	}
	for _, u := range []api.Iv{iv(0, 1), iv(0, tiny), iv(tiny, 1), iv(0, below(1)), iv(below(1), 1), single(1), single(0)} {
		if _, _, err := trig.SinCos(u); err != api.OK {
			t.Errorf("SinCos(%v): %d", u, err)
		}
	}
}
