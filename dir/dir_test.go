package dir_test

import (
	"math"
	"testing"

	"burnish/api"
	"burnish/dir"
)

var (
	top    = math.MaxFloat64
	tiny   = math.SmallestNonzeroFloat64
	normal = power(-1022) // the least number that is not subnormal
	minus0 = math.Copysign(0, -1)
)

func power(e int) float64 { return math.Ldexp(1, e) }

// none is what is not a number; NaN comes with several signs and loads.
func none() []float64 {
	return []float64{
		math.NaN(), -math.NaN(), math.Float64frombits(0x7ff0000000000001), math.Float64frombits(0xffffffffffffffff),
		math.Inf(1), math.Inf(-1), minus0,
	}
}

// edges is numbers that the chapter names, or next to them, of both signs.
func edges() []float64 {
	l := []float64{0}
	for _, x := range []float64{
		tiny, 2 * tiny, 3 * tiny, power(-1060), normal / 2, normal - tiny, normal, normal + tiny, 2*normal - tiny, 2 * normal,
		power(-600), power(-537), power(-80), power(-60), power(-53), power(-52), 0.1, 1. / 3, 0.5, 1 - power(-53), 1, 1 + power(-52), 1.5, 2, 3, 5, 10,
		1<<53 - 1, 1 << 53, power(64), power(65), power(117), power(118), power(600), power(1023), top / 2, top - power(971), top,
	} {
		l = append(l, x, -x)
	}
	return l
}

type pairCall struct {
	name string
	of   func(a, b float64, up bool) (float64, api.Errno)
}

func pairCalls() []pairCall {
	return []pairCall{{"Add", dir.Add}, {"Sub", dir.Sub}, {"Mul", dir.Mul}, {"Div", dir.Div}}
}

// same reports whether two floats have the same bits, so that -0 is not 0.
func same(a, b float64) bool { return math.Float64bits(a) == math.Float64bits(b) }

func TestRightP11(t *testing.T) {
	for _, x := range edges() {
		if !dir.Right(x) {
			t.Errorf("Right(%g) is false", x)
		}
	}
	for _, x := range none() {
		if dir.Right(x) {
			t.Errorf("Right(%g) of bits %x is true", x, math.Float64bits(x))
		}
	}
}

func TestPairsExamplesP12(t *testing.T) {
	third, over := math.Ldexp(6004799503160661, -54), api.ErrOver
	for _, c := range []struct {
		name               string
		of                 func(a, b float64, up bool) (float64, api.Errno)
		a, b, down, up     float64
		downError, upError api.Errno
	}{
		{"sum just above 1", dir.Add, 1, power(-60), 1, 1 + power(-52), 0, 0},
		{"sum just above 1, far apart", dir.Add, 1, tiny, 1, 1 + power(-52), 0, 0},
		{"sum just below 1, far apart", dir.Add, -tiny, 1, 1 - power(-53), 1, 0, 0},
		{"sum just below -1", dir.Add, -1, -power(-60), -1 - power(-52), -1, 0, 0},
		{"sum that is exact", dir.Add, 0.25, 0.5, 0.75, 0.75, 0, 0},
		{"sum with a carry", dir.Add, 1<<53 - 1, 2, 1 << 53, 1<<53 + 2, 0, 0},
		{"sum of subnormal numbers", dir.Add, normal - tiny, tiny, normal, normal, 0, 0},
		{"sum of 0 and 0", dir.Add, 0, 0, 0, 0, 0, 0},
		{"sum of opposites", dir.Add, -7, 7, 0, 0, 0, 0},
		{"sum that is just too great", dir.Add, top, tiny, top, 0, 0, over},
		{"sum that is much too great", dir.Add, top, top, top, 0, 0, over},
		{"sum that is just too low", dir.Add, -top, -tiny, 0, -top, over, 0},
		{"sum of the greatest and the least", dir.Add, top, -top, 0, 0, 0, 0},
		{"sum just below the greatest", dir.Add, top, -tiny, top - power(971), top, 0, 0},
		{"difference 0", dir.Sub, 1, 1, 0, 0, 0, 0},
		{"difference of 0 and 0", dir.Sub, 0, 0, 0, 0, 0, 0},
		{"difference from 0", dir.Sub, 0, 3, -3, -3, 0, 0},
		{"difference with 0", dir.Sub, 3, 0, 3, 3, 0, 0},
		{"difference of neighbours", dir.Sub, normal + tiny, normal, tiny, tiny, 0, 0},
		{"difference that is too low", dir.Sub, -top, tiny, 0, -top, over, 0},
		{"product 15", dir.Mul, 3, 5, 15, 15, 0, 0},
		{"product of small ones", dir.Mul, power(-600), power(-600), 0, tiny, 0, 0},
		{"product of small ones, negative", dir.Mul, -power(-600), power(-600), -tiny, 0, 0, 0},
		{"product of the smallest", dir.Mul, -tiny, -tiny, 0, tiny, 0, 0},
		{"product that is a subnormal number", dir.Mul, 3 * tiny, 0.5, tiny, 2 * tiny, 0, 0},
		{"product rounded to the least that is not subnormal", dir.Mul, normal, 1 - power(-53), normal - tiny, normal, 0, 0},
		{"product from subnormal to 1", dir.Mul, tiny, power(1000), power(-74), power(-74), 0, 0},
		{"product with 0", dir.Mul, -3, 0, 0, 0, 0, 0},
		{"product of great ones", dir.Mul, power(600), power(600), top, 0, 0, over},
		{"product of great ones, negative", dir.Mul, power(600), -power(600), 0, -top, over, 0},
		{"product of the greatest", dir.Mul, -top, -top, top, 0, 0, over},
		{"product that is just too great", dir.Mul, power(512), power(512), top, 0, 0, over},
		{"product just below that", dir.Mul, top, 1 - power(-53), top - power(971), top, 0, 0},
		{"a third", dir.Div, 1, 3, third, third + power(-54), 0, 0},
		{"a third, negative", dir.Div, 1, -3, -third - power(-54), -third, 0, 0},
		{"quotient that is exact", dir.Div, 15, -3, -5, -5, 0, 0},
		{"quotient with 0", dir.Div, 0, -3, 0, 0, 0, 0},
		{"quotient near 0", dir.Div, -tiny, top, -tiny, 0, 0, 0},
		{"quotient of subnormal numbers", dir.Div, 3 * tiny, 2 * tiny, 1.5, 1.5, 0, 0},
		{"quotient that is a subnormal number", dir.Div, normal, 3, math.Floor(power(52)/3) * tiny, math.Ceil(power(52)/3) * tiny, 0, 0},
		{"quotient that is much too great", dir.Div, top, tiny, top, 0, 0, over},
		{"quotient that is much too low", dir.Div, top, -tiny, 0, -top, over, 0},
		{"quotient that is just too great", dir.Div, top, 1 - power(-53), top, 0, 0, over},
		{"divisor 0", dir.Div, 1, 0, 0, 0, api.ErrZero, api.ErrZero},
		{"divisor 0 of the greatest", dir.Div, top, 0, 0, 0, api.ErrZero, api.ErrZero},
		{"divisor 0 of 0", dir.Div, 0, 0, 0, 0, api.ErrZero, api.ErrZero},
	} {
		down, downError := c.of(c.a, c.b, false)
		up, upError := c.of(c.a, c.b, true)
		if !same(down, c.down) || downError != c.downError {
			t.Errorf("%s: down %g, %d; want %g, %d", c.name, down, downError, c.down, c.downError)
		}
		if !same(up, c.up) || upError != c.upError {
			t.Errorf("%s: up %g, %d; want %g, %d", c.name, up, upError, c.up, c.upError)
		}
	}
}

func TestSqrtExamplesP12(t *testing.T) {
	two := math.Ldexp(6369051672525772, -52)
	for _, c := range []struct{ a, down, up float64 }{
		{0, 0, 0}, {1, 1, 1}, {4, 2, 2}, {2.25, 1.5, 1.5}, {2, two, two + power(-52)}, {0.5, two / 2, two/2 + power(-53)},
		{8, 2 * two, 2*two + power(-51)}, {tiny, power(-537), power(-537)}, {2 * tiny, two * power(-537), (two + power(-52)) * power(-537)},
		{normal, power(-511), power(-511)}, {normal - tiny, power(-511) - power(-563), power(-511) - power(-564)},
		{top, power(512) - power(459), power(512)}, {1 + power(-52), 1, 1 + power(-52)}, {1 - power(-53), 1 - power(-53), 1},
		{power(-600), power(-300), power(-300)}, {power(52), 1 << 26, 1 << 26}, {power(1023), two * power(511), (two + power(-52)) * power(511)},
	} {
		down, downError := dir.Sqrt(c.a, false)
		up, upError := dir.Sqrt(c.a, true)
		if !same(down, c.down) || !same(up, c.up) || downError != api.OK || upError != api.OK {
			t.Errorf("root of %g: down %g, %d, up %g, %d; want %g, %g", c.a, down, downError, up, upError, c.down, c.up)
		}
	}
}

func TestSqrtOfNegativesP12(t *testing.T) {
	for _, a := range edges() {
		for _, up := range []bool{false, true} {
			if x, e := dir.Sqrt(a, up); a < 0 && (!same(x, 0) || e != api.ErrNeg) {
				t.Errorf("root of %g: %g, %d", a, x, e)
			}
		}
	}
}

func TestNoNumberComesFirstP12(t *testing.T) {
	for _, up := range []bool{false, true} {
		for _, bad := range none() {
			for _, c := range pairCalls() {
				for _, other := range append(edges(), none()...) { // with 0 as divisor, and with what would be too great
					x, e := c.of(bad, other, up)
					y, f := c.of(other, bad, up)
					if e != api.ErrNum || f != api.ErrNum || !same(x, 0) || !same(y, 0) {
						t.Fatalf("%s of %g and %g: %g, %d; the other way round %g, %d", c.name, bad, other, x, e, y, f)
					}
				}
			}
			if x, e := dir.Sqrt(bad, up); e != api.ErrNum || !same(x, 0) { // -0 and -Inf as well: ahead of ErrNeg
				t.Errorf("root of %g: %g, %d", bad, x, e)
			}
		}
	}
}

func TestNextP13(t *testing.T) {
	for _, c := range []struct{ x, below, above float64 }{
		{0, -tiny, tiny}, {tiny, 0, 2 * tiny}, {-tiny, -2 * tiny, 0}, {1, 1 - power(-53), 1 + power(-52)}, {-1, -1 - power(-52), -1 + power(-53)},
		{normal, normal - tiny, normal + tiny}, {-normal, -normal - tiny, -normal + tiny}, {2 * normal, 2*normal - tiny, 2*normal + 2*tiny},
		{power(1023), power(1023) - power(970), power(1023) + power(971)},
	} {
		below, e := dir.Next(c.x, false)
		above, f := dir.Next(c.x, true)
		if !same(below, c.below) || !same(above, c.above) || e != api.OK || f != api.OK {
			t.Errorf("next to %g: %g, %d and %g, %d", c.x, below, e, above, f)
		}
	}
	for _, c := range []struct {
		x    float64
		up   bool
		next float64
		err  api.Errno
	}{
		{top, true, 0, api.ErrOver}, {-top, false, 0, api.ErrOver}, {top, false, top - power(971), 0}, {-top, true, -top + power(971), 0},
	} {
		if x, e := dir.Next(c.x, c.up); !same(x, c.next) || e != c.err {
			t.Errorf("next to %g, %t: %g, %d", c.x, c.up, x, e)
		}
	}
	for _, bad := range none() {
		for _, up := range []bool{false, true} {
			if x, e := dir.Next(bad, up); !same(x, 0) || e != api.ErrNum {
				t.Errorf("next to %g, %t: %g, %d", bad, up, x, e)
			}
		}
	}
}
