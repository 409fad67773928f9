package vec_test

import (
	"math"
	"testing"

	"burnish/api"
	"burnish/ival"
	"burnish/vec"
)

const (
	top  = math.MaxFloat64
	tiny = math.SmallestNonzeroFloat64
)

func power(e int) float64 { return math.Ldexp(1, e) }

func iv(lo, hi float64) api.Iv { return api.Iv{Lo: lo, Hi: hi} }

func single(x float64) api.Iv { return iv(x, x) }

// at is the vector of three single numbers.
func at(x, y, z float64) api.Vec { return api.Vec{X: single(x), Y: single(y), Z: single(z)} }

// same reports whether two intervals have the same bits, so that -0 is not 0.
func same(a, b api.Iv) bool {
	return math.Float64bits(a.Lo) == math.Float64bits(b.Lo) && math.Float64bits(a.Hi) == math.Float64bits(b.Hi)
}

func sameVec(a, b api.Vec) bool { return same(a.X, b.X) && same(a.Y, b.Y) && same(a.Z, b.Z) }

// none is what is not a number.
func none() []float64 {
	return []float64{
		math.NaN(), -math.NaN(), math.Float64frombits(0x7ff0000000000001), math.Float64frombits(math.MaxUint64),
		math.Inf(1), math.Inf(-1), math.Copysign(0, -1),
	}
}

func wrongOnes() []api.Iv {
	l := []api.Iv{iv(1, 0), iv(top, -top), iv(tiny, 0), iv(1+power(-52), 1)}
	for _, bad := range none() {
		l = append(l, single(bad), iv(bad, 1), iv(-1, bad))
	}
	return l
}

// operation is one of P5.2: its name, and what it makes of an interval and two vectors; an interval that it returns is X here, and one that it does not take is left alone.
type operation struct {
	name        string
	of          func(c *ival.Calc, k api.Iv, a, b api.Vec) api.Vec
	scale, both bool // whether it takes k, and b
}

func operations() []operation {
	return []operation{
		{"Add", func(c *ival.Calc, k api.Iv, a, b api.Vec) api.Vec { return vec.Add(c, a, b) }, false, true},
		{"Sub", func(c *ival.Calc, k api.Iv, a, b api.Vec) api.Vec { return vec.Sub(c, a, b) }, false, true},
		{"Neg", func(c *ival.Calc, k api.Iv, a, b api.Vec) api.Vec { return vec.Neg(c, a) }, false, false},
		{"Scale", func(c *ival.Calc, k api.Iv, a, b api.Vec) api.Vec { return vec.Scale(c, k, a) }, true, false},
		{"Dot", func(c *ival.Calc, k api.Iv, a, b api.Vec) api.Vec { return api.Vec{X: vec.Dot(c, a, b)} }, false, true},
		{"Cross", func(c *ival.Calc, k api.Iv, a, b api.Vec) api.Vec { return vec.Cross(c, a, b) }, false, true},
		{"Norm", func(c *ival.Calc, k api.Iv, a, b api.Vec) api.Vec { return api.Vec{X: vec.Norm(c, a)} }, false, false},
	}
}

func named(name string) operation {
	for _, o := range operations() {
		if o.name == name {
			return o
		}
	}
	panic(name)
}

func TestExamplesP51(t *testing.T) {
	for _, x := range []struct {
		f    api.F3
		want api.Vec
	}{
		{api.F3{Z: 7}, at(0, 0, 1)}, {api.F3{Z: -7}, at(0, 0, -1)}, {api.F3{X: 7}, at(1, 0, 0)}, {api.F3{Y: -0.5}, at(0, -1, 0)},
		{api.F3{X: tiny, Z: 1}, api.Vec{X: iv(0, tiny), Z: iv(1-power(-52), 1)}}, {api.F3{X: -tiny, Z: 1}, api.Vec{X: iv(-tiny, 0), Z: iv(1-power(-52), 1)}},
	} {
		if got, err := vec.Unit(x.f); !sameVec(got, x.want) || err != api.OK {
			t.Errorf("Unit(%v): %v, %d; want %v", x.f, got, err, x.want)
		}
	}
	u, err := vec.Unit(api.F3{X: 3, Z: 4})
	about := func(a api.Iv, x float64) bool { return a.Lo <= x && x <= a.Hi && a.Hi-a.Lo <= power(-52) }
	if !about(u.X, 0.6) || !same(u.Y, single(0)) || !about(u.Z, 0.8) || err != api.OK {
		t.Errorf("Unit(3, 0, 4): %v, %d", u, err)
	}
}

// Each of the three may be the greatest, of either sign.
func TestBoundsP51(t *testing.T) {
	places := func(x, other float64) []api.F3 {
		return []api.F3{{X: x, Y: other, Z: other}, {X: other, Y: x, Z: other}, {X: other, Y: other, Z: x}}
	}
	for _, sign := range []float64{1, -1} {
		for _, x := range []float64{power(-64), math.Nextafter(power(-64), 1), 1, math.Nextafter(power(64), 1), power(64)} {
			for _, other := range []float64{0, power(-64), -tiny, power(-70)} {
				for _, f := range places(sign*x, other) {
					if got, err := vec.Unit(f); sameVec(got, api.Vec{}) || err != api.OK {
						t.Errorf("Unit(%v): %v, %d", f, got, err)
					}
				}
			}
		}
		for _, x := range []float64{tiny, power(-1022), power(-65), math.Nextafter(power(-64), 0)} {
			for _, other := range []float64{0, power(-65), -power(-65), -tiny} {
				checkNone(t, places(sign*x, other))
			}
		}
		for _, x := range []float64{math.Nextafter(power(64), top), power(65), power(600), top} {
			for _, other := range []float64{0, 1, -tiny, power(64), -power(64), -top} {
				checkNone(t, places(sign*x, other))
			}
		}
	}
}

func TestNoUnitVectorP51(t *testing.T) {
	checkNone(t, []api.F3{{}})
	for _, bad := range none() {
		for _, x := range []float64{0, 1, -3, power(-64), power(64), tiny, top, bad} {
			checkNone(t, []api.F3{{X: bad, Y: x, Z: x}, {X: x, Y: bad, Z: x}, {X: x, Y: x, Z: bad}, {X: bad, Y: 1, Z: x}, {X: 1, Y: x, Z: bad}})
		}
	}
}

func checkNone(t *testing.T, l []api.F3) {
	t.Helper()
	for _, f := range l {
		if got, err := vec.Unit(f); !sameVec(got, api.Vec{}) || err != api.ErrDomain {
			t.Errorf("Unit(%v): %v, %d", f, got, err)
		}
	}
}

func TestExamplesP52(t *testing.T) {
	wide := api.Vec{X: iv(-3, 3), Y: single(4), Z: iv(-1, 2)}
	for _, x := range []struct {
		name string
		k    api.Iv
		a, b api.Vec
		want api.Vec
	}{
		{"Dot", api.Iv{}, at(1, 2, 3), at(4, 5, 6), api.Vec{X: single(32)}},
		{"Cross", api.Iv{}, at(1, 2, 3), at(4, 5, 6), at(-3, 6, -3)},
		{"Norm", api.Iv{}, at(2, 3, 6), api.Vec{}, api.Vec{X: single(7)}},
		{"Add", api.Iv{}, at(1, 2, 3), at(4, -5, 60), at(5, -3, 63)}, {"Sub", api.Iv{}, at(1, 2, 3), at(4, -5, 60), at(-3, 7, -57)},
		{"Add", api.Iv{}, wide, at(1, -4, 0.5), api.Vec{X: iv(-2, 4), Y: single(0), Z: iv(-0.5, 2.5)}},
		{"Sub", api.Iv{}, wide, wide, api.Vec{X: iv(-6, 6), Y: single(0), Z: iv(-3, 3)}},
		{"Neg", api.Iv{}, wide, api.Vec{}, api.Vec{X: iv(-3, 3), Y: single(-4), Z: iv(-2, 1)}},
		{"Neg", api.Iv{}, at(1, 0, -3), api.Vec{}, at(-1, 0, 3)},
		{"Scale", iv(2, 3), wide, api.Vec{}, api.Vec{X: iv(-9, 9), Y: iv(8, 12), Z: iv(-3, 6)}},
		{"Scale", single(-1), wide, api.Vec{}, api.Vec{X: iv(-3, 3), Y: single(-4), Z: iv(-2, 1)}},
		{"Dot", api.Iv{}, wide, at(2, -1, 10), api.Vec{X: iv(-20, 22)}},
		{"Norm", api.Iv{}, api.Vec{X: iv(-3, 3), Y: single(4)}, api.Vec{}, api.Vec{X: iv(4, 5)}},
		{"Norm", api.Iv{}, api.Vec{}, api.Vec{}, api.Vec{}},
		{"Cross", api.Iv{}, at(1, 0, 0), at(0, 1, 0), at(0, 0, 1)}, {"Cross", api.Iv{}, at(0, 1, 0), at(0, 0, 1), at(1, 0, 0)},
		{"Cross", api.Iv{}, at(0, 0, 1), at(1, 0, 0), at(0, 1, 0)}, {"Cross", api.Iv{}, at(1, 0, 0), at(0, 0, 1), at(0, -1, 0)},
	} {
		var c ival.Calc
		if got := named(x.name).of(&c, x.k, x.a, x.b); !sameVec(got, x.want) || c.Err() != api.OK {
			t.Errorf("%s of %v, %v, %v: %v, %d; want %v", x.name, x.k, x.a, x.b, got, c.Err(), x.want)
		}
	}
}

// Of several errors the first one on the way from left to right, from inside to outside, is kept; what was computed ahead of it stays.
func TestFirstErrorP52(t *testing.T) {
	good, great, bad := single(1), single(top), iv(2, 1)
	for _, x := range []struct {
		name string
		k    api.Iv
		a, b api.Vec
		want api.Vec
		err  api.Errno
	}{
		{"Add", good, api.Vec{X: great, Y: bad}, api.Vec{X: great}, api.Vec{}, api.ErrOver},
		{"Add", good, api.Vec{X: bad, Y: great}, api.Vec{Y: great}, api.Vec{}, api.ErrIv},
		{"Add", good, api.Vec{X: good, Y: great, Z: bad}, at(1, top, 1), api.Vec{X: single(2)}, api.ErrOver},
		{"Add", good, api.Vec{X: good, Y: good, Z: good}, api.Vec{X: good, Y: good, Z: bad}, at(2, 2, 0), api.ErrIv},
		{"Sub", good, api.Vec{X: good, Y: single(-top)}, api.Vec{Y: great, Z: bad}, api.Vec{X: good}, api.ErrOver},
		{"Neg", good, api.Vec{X: good, Y: bad, Z: good}, api.Vec{}, api.Vec{X: single(-1)}, api.ErrIv},
		{"Neg", good, api.Vec{X: good, Y: great, Z: bad}, api.Vec{}, at(-1, -top, 0), api.ErrIv},
		{"Scale", bad, at(1, 2, 3), api.Vec{}, api.Vec{}, api.ErrIv},
		{"Scale", single(2), api.Vec{X: good, Y: great, Z: bad}, api.Vec{}, api.Vec{X: single(2)}, api.ErrOver},
		{"Dot", good, api.Vec{X: great, Y: great, Z: bad}, at(1, 1, 1), api.Vec{}, api.ErrOver}, // the first sum is ahead of the third product
		{"Dot", good, api.Vec{X: good, Y: bad, Z: great}, at(1, 1, 2), api.Vec{}, api.ErrIv},
		{"Dot", good, api.Vec{X: great, Y: bad}, at(2, 1, 1), api.Vec{}, api.ErrOver},
		{"Cross", good, api.Vec{Y: great, Z: bad}, at(1, 1, 2), api.Vec{}, api.ErrOver},
		{"Cross", good, at(1, 1, 1), api.Vec{Y: bad, Z: great}, api.Vec{}, api.ErrIv},
		{"Cross", good, at(0, top, -top), api.Vec{X: bad, Y: good, Z: good}, api.Vec{}, api.ErrOver}, // the first difference is ahead of all products with X
		{"Cross", good, api.Vec{X: bad, Y: good, Z: good}, at(1, 2, 3), api.Vec{X: good}, api.ErrIv},
		{"Cross", good, at(top, top, 0), at(0, 2, 0), api.Vec{}, api.ErrOver},
		{"Norm", good, api.Vec{X: single(power(511)), Y: single(power(511)), Z: bad}, api.Vec{}, api.Vec{}, api.ErrIv},
		{"Norm", good, api.Vec{X: single(1.3 * power(511)), Y: single(1.3 * power(511)), Z: single(1.3 * power(511))}, api.Vec{}, api.Vec{}, api.ErrOver},
		{"Norm", good, api.Vec{X: single(1.5 * power(511)), Y: single(1.5 * power(511)), Z: bad}, api.Vec{}, api.Vec{}, api.ErrOver},
		{"Norm", good, api.Vec{X: great, Y: bad}, api.Vec{}, api.Vec{}, api.ErrOver},
		{"Norm", good, api.Vec{X: bad, Y: great}, api.Vec{}, api.Vec{}, api.ErrIv},
	} {
		var c ival.Calc
		if got := named(x.name).of(&c, x.k, x.a, x.b); !sameVec(got, x.want) || c.Err() != x.err {
			t.Errorf("%s of %v, %v, %v: %v, %d; want %v, %d", x.name, x.k, x.a, x.b, got, c.Err(), x.want, x.err)
		}
	}
}

func TestWrongOperandsP52(t *testing.T) {
	right := at(4, 5, 6)
	for _, bad := range wrongOnes() {
		for i, a := range []api.Vec{{X: bad, Y: right.Y, Z: right.Z}, {X: right.X, Y: bad, Z: right.Z}, {X: right.X, Y: right.Y, Z: bad}} {
			for _, o := range operations() {
				var c, d, e ival.Calc
				if o.of(&c, single(1), a, right); c.Err() != api.ErrIv {
					t.Errorf("%s with %v at %d: %d", o.name, bad, i, c.Err())
				}
				if o.of(&d, single(1), right, a); o.both && d.Err() != api.ErrIv {
					t.Errorf("%s with %v at %d of the second: %d", o.name, bad, i, d.Err())
				}
				if got := o.of(&e, bad, right, right); o.scale && (e.Err() != api.ErrIv || !sameVec(got, api.Vec{})) {
					t.Errorf("%s with %v: %v, %d", o.name, bad, got, e.Err())
				}
			}
		}
	}
}

func TestBehindAnErrorP52(t *testing.T) {
	for _, x := range []struct {
		do   func(c *ival.Calc)
		want api.Errno
	}{
		{func(c *ival.Calc) { c.Num(math.NaN()) }, api.ErrNum}, {func(c *ival.Calc) { c.Div(single(1), single(0)) }, api.ErrZero},
		{func(c *ival.Calc) { c.Sqrt(single(-1)) }, api.ErrNeg}, {func(c *ival.Calc) { vec.Add(c, at(1, top, 1), at(1, top, 1)) }, api.ErrOver},
		{func(c *ival.Calc) { vec.Neg(c, api.Vec{Z: iv(1, 0)}) }, api.ErrIv},
	} {
		for _, o := range operations() {
			var c ival.Calc
			if x.do(&c); c.Err() != x.want {
				t.Fatalf("%d, want %d", c.Err(), x.want)
			}
			for _, a := range []api.Vec{at(1, 2, 3), {X: iv(1, 0)}, at(top, top, top)} {
				if got := o.of(&c, single(2), a, a); !sameVec(got, api.Vec{}) || c.Err() != x.want {
					t.Errorf("%s behind %d: %v, %d", o.name, x.want, got, c.Err())
				}
			}
		}
	}
}

func TestNilP52(t *testing.T) {
	for _, o := range operations() {
		for _, a := range []api.Vec{at(1, 2, 3), {}, {X: iv(1, 0)}, at(top, top, top), at(math.NaN(), 1, 1)} {
			if got := o.of(nil, single(2), a, a); !sameVec(got, api.Vec{}) {
				t.Errorf("%s with nil: %v", o.name, got)
			}
		}
	}
}
