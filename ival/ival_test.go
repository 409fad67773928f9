package ival_test

import (
	"math"
	"math/big"
	"testing"

	"burnish/api"
	"burnish/ival"
)

var (
	top    = math.MaxFloat64
	tiny   = math.SmallestNonzeroFloat64
	normal = power(-1022) // the least number that is not subnormal
	minus0 = math.Copysign(0, -1)
)

func power(e int) float64 { return math.Ldexp(1, e) }

func iv(lo, hi float64) api.Iv { return api.Iv{Lo: lo, Hi: hi} }

// same reports whether two floats have the same bits, so that -0 is not 0.
func same(a, b float64) bool { return math.Float64bits(a) == math.Float64bits(b) }

func sameIv(a, b api.Iv) bool { return same(a.Lo, b.Lo) && same(a.Hi, b.Hi) }

// none is what is not a number.
func none() []float64 {
	return []float64{
		math.NaN(), -math.NaN(), math.Float64frombits(0x7ff0000000000001), math.Float64frombits(0xffffffffffffffff),
		math.Inf(1), math.Inf(-1), minus0,
	}
}

// edges is numbers that the chapter names, or next to them, of both signs.
func edges() []float64 {
	l := []float64{0}
	for _, x := range []float64{tiny, 3 * tiny, normal, power(-600), 0.1, 1. / 3, 1, 1 + power(-52), 3, power(600), top - power(971), top} {
		l = append(l, x, -x)
	}
	return l
}

// between is all intervals from one of the numbers to another one, or to itself.
func between(numbers []float64) []api.Iv {
	var l []api.Iv
	for _, lo := range numbers {
		for _, hi := range numbers {
			if lo <= hi {
				l = append(l, iv(lo, hi))
			}
		}
	}
	return l
}

// wrongOnes is intervals with an end that is no number, or with ends in the wrong order.
func wrongOnes() []api.Iv {
	l := []api.Iv{iv(1, 0), iv(0, -tiny), iv(1+power(-52), 1), iv(top, -top), iv(2, 1), iv(tiny, 0)}
	for _, bad := range none() {
		l = append(l, iv(bad, bad))
		for _, x := range []float64{0, 1, -1, top, -top} {
			l = append(l, iv(bad, x), iv(x, bad))
		}
	}
	return append(l, iv(math.Inf(-1), math.Inf(1)))
}

func TestOfP21(t *testing.T) {
	for _, x := range edges() {
		if a, e := ival.Of(x); !sameIv(a, iv(x, x)) || e != api.OK {
			t.Errorf("Of(%g): %v, %d", x, a, e)
		}
	}
	for _, x := range none() {
		if a, e := ival.Of(x); !sameIv(a, api.Iv{}) || e != api.ErrNum {
			t.Errorf("Of(%g): %v, %d", x, a, e)
		}
	}
}

func TestRightP21(t *testing.T) {
	for _, a := range between(edges()) {
		if !ival.Right(a) {
			t.Errorf("Right(%v) is false", a)
		}
	}
	for _, a := range wrongOnes() {
		if ival.Right(a) {
			t.Errorf("Right(%v) is true", a)
		}
	}
}

func TestHasP21(t *testing.T) {
	for _, c := range []struct {
		a    api.Iv
		x    float64
		want bool
	}{
		{iv(1, 3), 2, true}, {iv(1, 3), 1, true}, {iv(1, 3), 3, true}, {iv(1, 3), 1 - power(-53), false}, {iv(1, 3), 3 + power(-51), false},
		{iv(0, 0), 0, true}, {iv(0, 0), tiny, false}, {iv(0, 0), -tiny, false}, {iv(-1, 1), 0, true}, {iv(0, 1), 0, true}, {iv(-1, 0), 0, true},
		{iv(tiny, 1), 0, false}, {iv(-1, -tiny), 0, false}, {iv(-top, top), top, true}, {iv(-top, top), -top, true},
		{iv(-top, top), math.Inf(1), false}, {iv(-top, top), math.Inf(-1), false}, {iv(-top, top), math.NaN(), false},
		{iv(0, 1), minus0, true}, // it is at 0, if no number: the chapter asks for no more
	} {
		if got := ival.Has(c.a, c.x); got != c.want {
			t.Errorf("Has(%v, %g) is %t", c.a, c.x, got)
		}
	}
	for _, a := range wrongOnes() {
		for _, x := range append(append(edges(), none()...), a.Lo, a.Hi) {
			if ival.Has(a, x) {
				t.Errorf("Has(%v, %g) is true", a, x)
			}
		}
	}
}

func TestWidthP21(t *testing.T) {
	for _, c := range []struct {
		a    api.Iv
		want float64
		err  api.Errno
	}{
		{iv(-1, 2), 3, 0}, {iv(5, 5), 0, 0}, {iv(0, 0), 0, 0}, {iv(-top, -top), 0, 0}, {iv(0, top), top, 0}, {iv(-top, 0), top, 0},
		{iv(-power(-60), 1), 1 + power(-52), 0}, {iv(power(-60), 1), 1, 0}, {iv(1, 1+power(-52)), power(-52), 0}, {iv(-tiny, tiny), 2 * tiny, 0},
		{iv(-tiny, top), 0, api.ErrOver}, {iv(-top, tiny), 0, api.ErrOver}, {iv(-top, top), 0, api.ErrOver},
		{iv(tiny, top), top, 0}, {iv(-top/2, top/2), top, 0},
	} {
		if x, e := ival.Width(c.a); !same(x, c.want) || e != c.err {
			t.Errorf("Width(%v): %g, %d; want %g, %d", c.a, x, e, c.want, c.err)
		}
	}
	for _, a := range wrongOnes() {
		if x, e := ival.Width(a); !same(x, 0) || e != api.ErrIv {
			t.Errorf("Width(%v): %g, %d", a, x, e)
		}
	}
}

func TestHullP22(t *testing.T) {
	for _, c := range []struct{ a, b, want api.Iv }{
		{iv(0, 2), iv(1, 3), iv(0, 3)}, {iv(0, 1), iv(2, 3), iv(0, 3)}, {iv(0, 3), iv(1, 2), iv(0, 3)}, {iv(-1, -1), iv(1, 1), iv(-1, 1)},
		{iv(0, 0), iv(0, 0), iv(0, 0)}, {iv(-top, 0), iv(tiny, top), iv(-top, top)}, {iv(-2, -1), iv(-4, -3), iv(-4, -1)},
	} {
		if x, y := ival.Hull(c.a, c.b), ival.Hull(c.b, c.a); !sameIv(x, c.want) || !sameIv(y, c.want) {
			t.Errorf("Hull(%v, %v): %v, the other way round %v", c.a, c.b, x, y)
		}
	}
}

func TestMeetP22(t *testing.T) {
	for _, c := range []struct {
		a, b, want api.Iv
		some       bool
	}{
		{iv(0, 2), iv(1, 3), iv(1, 2), true}, {iv(0, 1), iv(2, 3), iv(0, 0), false}, {iv(0, 3), iv(1, 2), iv(1, 2), true},
		{iv(0, 1), iv(1, 2), iv(1, 1), true}, {iv(-1, 0), iv(0, 1), iv(0, 0), true}, {iv(-1, 0), iv(tiny, 1), iv(0, 0), false},
		{iv(-top, top), iv(5, 5), iv(5, 5), true}, {iv(-3, -2), iv(-2, -1), iv(-2, -2), true}, {iv(-3, -2), iv(2, 3), iv(0, 0), false},
		{iv(0, 1), iv(1+power(-52), 2), iv(0, 0), false}, {iv(7, 7), iv(7, 7), iv(7, 7), true}, {iv(7, 7), iv(8, 8), iv(0, 0), false},
	} {
		x, some := ival.Meet(c.a, c.b)
		y, also := ival.Meet(c.b, c.a)
		if !sameIv(x, c.want) || some != c.some || !sameIv(y, c.want) || also != c.some {
			t.Errorf("Meet(%v, %v): %v, %t; the other way round %v, %t", c.a, c.b, x, some, y, also)
		}
	}
}

// What these return for wrong intervals is not specified, but that they return is.
func TestWrongOnesReturnP22(t *testing.T) {
	for _, a := range wrongOnes() {
		for _, b := range append(wrongOnes(), iv(0, 1)) {
			ival.Hull(a, b)
			ival.Meet(a, b)
			ival.Hull(b, a)
			ival.Meet(b, a)
		}
	}
}

// turns returns the angle whose tangent is 1/n, times one, by its series.
func turns(one *big.Int, n int64) *big.Int {
	sum, x := new(big.Int), new(big.Int).Quo(one, big.NewInt(n))
	for k := int64(1); x.Sign() != 0; k += 2 {
		part := new(big.Int).Quo(x, big.NewInt(k))
		if k%4 == 3 {
			part.Neg(part)
		}
		sum.Add(sum, part)
		x.Quo(x, big.NewInt(n*n))
	}
	return sum
}

func TestPiP22(t *testing.T) {
	p := ival.Pi()
	if !same(p.Lo, math.Ldexp(7074237752028440, -51)) || !same(p.Hi, math.Ldexp(7074237752028441, -51)) {
		t.Errorf("Pi: %v", p)
	}
	one := new(big.Int).Lsh(big.NewInt(1), 200)
	quarter := turns(one, 5) // Machin: a quarter of pi is four of these, less one of 239
	quarter.Lsh(quarter, 2).Sub(quarter, turns(one, 239))
	pi := new(big.Rat).SetFrac(quarter.Lsh(quarter, 2), one)
	if !roundedDown(pi, p.Lo) || !roundedUp(pi, p.Hi) {
		t.Errorf("pi is %s, but not tight in %v", pi.FloatString(30), p)
	}
}
