package ival_test

import (
	"math"
	"testing"

	"burnish/api"
	"burnish/ival"
)

// call is an operation of a calculator; one with a single operand leaves b alone.
type call struct {
	name string
	of   func(c *ival.Calc, a, b api.Iv) api.Iv
	two  bool
}

func one(name string, of func(c *ival.Calc, a api.Iv) api.Iv) call {
	return call{name, func(c *ival.Calc, a, b api.Iv) api.Iv { return of(c, a) }, false}
}

func calls() []call {
	return []call{
		{"Add", (*ival.Calc).Add, true}, {"Sub", (*ival.Calc).Sub, true}, {"Mul", (*ival.Calc).Mul, true}, {"Div", (*ival.Calc).Div, true},
		{"Min", (*ival.Calc).Min, true}, {"Max", (*ival.Calc).Max, true},
		one("Sqr", (*ival.Calc).Sqr), one("Sqrt", (*ival.Calc).Sqrt), one("Neg", (*ival.Calc).Neg), one("Abs", (*ival.Calc).Abs),
	}
}

func named(name string) call {
	for _, k := range calls() {
		if k.name == name {
			return k
		}
	}
	panic(name)
}

func TestExamplesP23(t *testing.T) {
	third, two := math.Ldexp(6004799503160661, -54), math.Ldexp(6369051672525772, -52)
	for _, x := range []struct {
		name       string
		a, b, want api.Iv
	}{
		{"Add", iv(1, 2), iv(3, 4), iv(4, 6)}, {"Add", iv(-1, 2), iv(0.5, 0.5), iv(-0.5, 2.5)}, {"Add", iv(1, 1), iv(power(-60), 1), iv(1, 2)},
		{"Add", iv(1, 1), iv(-tiny, tiny), iv(1-power(-53), 1+power(-52))}, {"Add", iv(-top, top), iv(0, 0), iv(-top, top)},
		{"Add", iv(-top, 0), iv(0, top), iv(-top, top)}, {"Add", iv(-1, 1), iv(1, 1), iv(0, 2)}, {"Add", iv(-3, -3), iv(3, 3), iv(0, 0)},
		{"Sub", iv(1, 2), iv(1, 2), iv(-1, 1)}, {"Sub", iv(5, 7), iv(1, 2), iv(3, 6)}, {"Sub", iv(0, 0), iv(0, 0), iv(0, 0)},
		{"Sub", iv(1, 1), iv(0, tiny), iv(1-power(-53), 1)}, {"Sub", iv(0, top), iv(0, top), iv(-top, top)},
		{"Mul", iv(-1, 2), iv(-3, 4), iv(-6, 8)}, {"Mul", iv(-2, -1), iv(-3, 4), iv(-8, 6)}, {"Mul", iv(0, 0), iv(-3, 4), iv(0, 0)},
		{"Mul", iv(-3, 4), iv(0, 0), iv(0, 0)}, {"Mul", iv(2, 3), iv(4, 5), iv(8, 15)}, {"Mul", iv(2, 3), iv(-5, -4), iv(-15, -8)},
		{"Mul", iv(-3, -2), iv(-5, -4), iv(8, 15)}, {"Mul", iv(-3, 0), iv(-5, 0), iv(0, 15)}, {"Mul", iv(-3, 0), iv(0, 5), iv(-15, 0)},
		{"Mul", iv(2, 3), iv(-4, 5), iv(-12, 15)}, {"Mul", iv(-3, -2), iv(-4, 5), iv(-15, 12)}, {"Mul", iv(-4, 1), iv(-4, 1), iv(-4, 16)},
		{"Mul", iv(-power(-600), power(-600)), iv(power(-600), 1), iv(-power(-600), power(-600))},
		{"Mul", iv(power(-600), power(-600)), iv(-power(-600), power(-600)), iv(-tiny, tiny)}, {"Mul", iv(-top, top), iv(-1, 1), iv(-top, top)},
		{"Div", iv(1, 1), iv(3, 3), iv(third, third+power(-54))}, {"Div", iv(-1, 2), iv(-4, -2), iv(-1, 0.5)}, {"Div", iv(-1, 2), iv(2, 4), iv(-0.5, 1)},
		{"Div", iv(4, 8), iv(2, 4), iv(1, 4)}, {"Div", iv(-8, -4), iv(2, 4), iv(-4, -1)}, {"Div", iv(4, 8), iv(-4, -2), iv(-4, -1)},
		{"Div", iv(-8, -4), iv(-4, -2), iv(1, 4)}, {"Div", iv(0, 0), iv(-4, -2), iv(0, 0)}, {"Div", iv(0, 1), iv(-4, -2), iv(-0.5, 0)},
		{"Div", iv(-1, 0), iv(-4, -2), iv(0, 0.5)}, {"Div", iv(0, tiny), iv(tiny, top), iv(0, 1)}, {"Div", iv(tiny, tiny), iv(2, top), iv(0, tiny)},
		{"Sqr", iv(-2, 1), iv(0, 0), iv(0, 4)}, {"Sqr", iv(-3, -2), iv(0, 0), iv(4, 9)}, {"Sqr", iv(2, 3), iv(0, 0), iv(4, 9)},
		{"Sqr", iv(-1, 2), iv(0, 0), iv(0, 4)}, {"Sqr", iv(0, 2), iv(0, 0), iv(0, 4)}, {"Sqr", iv(-2, 0), iv(0, 0), iv(0, 4)},
		{"Sqr", iv(-power(-600), -power(-600)), iv(0, 0), iv(0, tiny)}, {"Sqr", iv(0, 0), iv(0, 0), iv(0, 0)},
		{"Sqrt", iv(0, 4), iv(0, 0), iv(0, 2)}, {"Sqrt", iv(2, 2), iv(0, 0), iv(two, two+power(-52))}, {"Sqrt", iv(0, 0), iv(0, 0), iv(0, 0)},
		{"Sqrt", iv(tiny, top), iv(0, 0), iv(power(-537), power(512))}, {"Sqrt", iv(2.25, 9), iv(0, 0), iv(1.5, 3)},
		{"Neg", iv(0, 2), iv(0, 0), iv(-2, 0)}, {"Neg", iv(-2, 0), iv(0, 0), iv(0, 2)}, {"Neg", iv(0, 0), iv(0, 0), iv(0, 0)},
		{"Neg", iv(-top, tiny), iv(0, 0), iv(-tiny, top)}, {"Neg", iv(1, 3), iv(0, 0), iv(-3, -1)},
		{"Abs", iv(-3, 2), iv(0, 0), iv(0, 3)}, {"Abs", iv(-2, 3), iv(0, 0), iv(0, 3)}, {"Abs", iv(-3, -2), iv(0, 0), iv(2, 3)},
		{"Abs", iv(2, 3), iv(0, 0), iv(2, 3)}, {"Abs", iv(-2, 0), iv(0, 0), iv(0, 2)}, {"Abs", iv(0, 0), iv(0, 0), iv(0, 0)}, {"Abs", iv(-top, top), iv(0, 0), iv(0, top)},
		{"Min", iv(0, 5), iv(1, 2), iv(0, 2)}, {"Min", iv(1, 2), iv(3, 4), iv(1, 2)}, {"Min", iv(-top, top), iv(0, 0), iv(-top, 0)},
		{"Max", iv(0, 5), iv(1, 2), iv(1, 5)}, {"Max", iv(1, 2), iv(3, 4), iv(3, 4)}, {"Max", iv(-top, top), iv(0, 0), iv(0, top)},
	} {
		var c ival.Calc
		if got := named(x.name).of(&c, x.a, x.b); !sameIv(got, x.want) || c.Err() != api.OK {
			t.Errorf("%s of %v and %v: %v, %d; want %v", x.name, x.a, x.b, got, c.Err(), x.want)
		}
	}
}

func TestNumP23(t *testing.T) {
	for _, x := range edges() {
		var c ival.Calc
		if got := c.Num(x); !sameIv(got, iv(x, x)) || c.Err() != api.OK {
			t.Errorf("Num(%g): %v, %d", x, got, c.Err())
		}
	}
	for _, x := range none() {
		var c ival.Calc
		if got := c.Num(x); !sameIv(got, api.Iv{}) || c.Err() != api.ErrNum {
			t.Errorf("Num(%g): %v, %d", x, got, c.Err())
		}
	}
}

func TestErrorsP23(t *testing.T) {
	for _, x := range []struct {
		name string
		a, b api.Iv
		want api.Errno
	}{
		{"Div", iv(1, 1), iv(0, 1), api.ErrZero}, {"Div", iv(1, 1), iv(-1, 0), api.ErrZero}, {"Div", iv(1, 1), iv(-1, 1), api.ErrZero},
		{"Div", iv(0, 0), iv(0, 0), api.ErrZero}, {"Div", iv(-top, top), iv(-tiny, tiny), api.ErrZero}, {"Div", iv(top, top), iv(0, tiny), api.ErrZero},
		{"Sqrt", iv(-1, 1), iv(0, 0), api.ErrNeg}, {"Sqrt", iv(-tiny, 0), iv(0, 0), api.ErrNeg}, {"Sqrt", iv(-4, -1), iv(0, 0), api.ErrNeg},
		{"Sqrt", iv(-top, top), iv(0, 0), api.ErrNeg},
		{"Add", iv(0, top), iv(0, tiny), api.ErrOver}, {"Add", iv(-top, 0), iv(-tiny, 0), api.ErrOver}, {"Add", iv(-top, top), iv(-1, 1), api.ErrOver},
		{"Add", iv(top, top), iv(top, top), api.ErrOver}, {"Sub", iv(0, top), iv(-tiny, 0), api.ErrOver}, {"Sub", iv(-top, 0), iv(0, tiny), api.ErrOver},
		{"Mul", iv(1, top), iv(1, 2), api.ErrOver}, {"Mul", iv(-top, 1), iv(1, 2), api.ErrOver}, {"Mul", iv(-top, -1), iv(-2, 1), api.ErrOver},
		{"Mul", iv(-top, 1), iv(-1, 1+power(-52)), api.ErrOver}, {"Mul", iv(-1, top), iv(-1-power(-52), 1), api.ErrOver},
		{"Mul", iv(-1, top), iv(-1, 1+power(-52)), api.ErrOver}, {"Mul", iv(-top, 1), iv(-1-power(-52), 1), api.ErrOver},
		{"Mul", iv(power(600), power(600)), iv(power(600), power(600)), api.ErrOver},
		{"Div", iv(0, 1), iv(tiny, 1), api.ErrOver}, {"Div", iv(0, 1), iv(-1, -tiny), api.ErrOver}, {"Div", iv(-1, 0), iv(-1, -tiny), api.ErrOver},
		{"Sqr", iv(0, power(512)), iv(0, 0), api.ErrOver}, {"Sqr", iv(-power(512), 0), iv(0, 0), api.ErrOver}, {"Sqr", iv(top, top), iv(0, 0), api.ErrOver},
		{"Sqr", iv(-top, -1), iv(0, 0), api.ErrOver},
	} {
		var c ival.Calc
		if got := named(x.name).of(&c, x.a, x.b); !sameIv(got, api.Iv{}) || c.Err() != x.want {
			t.Errorf("%s of %v and %v: %v, %d; want %d", x.name, x.a, x.b, got, c.Err(), x.want)
		}
	}
}

func TestWrongOperandsP23(t *testing.T) {
	// Ahead of what these would be to blame for, too: a divisor that has 0, a root of a negative number, what is too great.
	others := []api.Iv{iv(0, 0), iv(1, 2), iv(-1, 1), iv(-top, top), iv(tiny, tiny)}
	for _, k := range calls() {
		for _, bad := range wrongOnes() {
			for _, other := range append(others, bad) {
				var c ival.Calc
				if got := k.of(&c, bad, other); !sameIv(got, api.Iv{}) || c.Err() != api.ErrIv {
					t.Errorf("%s of %v and %v: %v, %d", k.name, bad, other, got, c.Err())
				}
				var d ival.Calc
				if got := k.of(&d, other, bad); k.two && (!sameIv(got, api.Iv{}) || d.Err() != api.ErrIv) {
					t.Errorf("%s of %v and %v: %v, %d", k.name, other, bad, got, d.Err())
				}
			}
		}
	}
}

func TestFirstErrorStaysP23(t *testing.T) {
	for _, first := range []struct {
		do   func(c *ival.Calc) api.Iv
		want api.Errno
	}{
		{func(c *ival.Calc) api.Iv { return c.Num(math.NaN()) }, api.ErrNum},
		{func(c *ival.Calc) api.Iv { return c.Abs(iv(2, 1)) }, api.ErrIv},
		{func(c *ival.Calc) api.Iv { return c.Div(iv(1, 1), iv(-1, 1)) }, api.ErrZero},
		{func(c *ival.Calc) api.Iv { return c.Sqrt(iv(-1, 1)) }, api.ErrNeg},
		{func(c *ival.Calc) api.Iv { return c.Sqr(iv(0, top)) }, api.ErrOver},
	} {
		var c ival.Calc
		if c.Add(iv(1, 1), iv(1, 1)) != iv(2, 2) || c.Err() != api.OK {
			t.Errorf("a zero calculator has %d", c.Err())
		}
		if got := first.do(&c); !sameIv(got, api.Iv{}) || c.Err() != first.want {
			t.Errorf("%v, %d; want %d", got, c.Err(), first.want)
		}
		for _, x := range []float64{3, math.NaN(), minus0} {
			if got := c.Num(x); !sameIv(got, api.Iv{}) || c.Err() != first.want {
				t.Errorf("behind %d: Num(%g): %v, %d", first.want, x, got, c.Err())
			}
		}
		for _, k := range calls() {
			for _, b := range []api.Iv{iv(1, 1), iv(-1, 1), iv(2, 1), iv(top, top)} {
				if got := k.of(&c, iv(4, 9), b); !sameIv(got, api.Iv{}) || c.Err() != first.want {
					t.Errorf("behind %d: %s: %v, %d", first.want, k.name, got, c.Err())
				}
				if got := k.of(&c, b, iv(4, 9)); !sameIv(got, api.Iv{}) || c.Err() != first.want {
					t.Errorf("behind %d: %s: %v, %d", first.want, k.name, got, c.Err())
				}
			}
		}
	}
}

func TestCalculatorsAreTheirOwnP23(t *testing.T) {
	var c, d ival.Calc
	c.Num(math.NaN())
	if got := d.Num(3); !sameIv(got, iv(3, 3)) || d.Err() != api.OK || c.Err() != api.ErrNum {
		t.Errorf("%v, %d and %d", got, d.Err(), c.Err())
	}
}

func TestNilP23(t *testing.T) {
	var c *ival.Calc
	for range 2 { // before and behind the other calls
		if c.Err() != api.ErrNil {
			t.Errorf("Err of nil: %d", c.Err())
		}
		for _, x := range []float64{3, math.NaN()} {
			if got := c.Num(x); !sameIv(got, api.Iv{}) {
				t.Errorf("Num of nil: %v", got)
			}
		}
		for _, k := range calls() {
			for _, a := range []api.Iv{iv(4, 9), iv(2, 1), iv(-top, top), iv(0, 0)} {
				if got := k.of(c, a, a); !sameIv(got, api.Iv{}) {
					t.Errorf("%s of nil: %v", k.name, got)
				}
			}
		}
	}
}
