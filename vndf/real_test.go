package vndf_test

import (
	"math"
	"math/big"
	"math/rand/v2"
	"testing"

	"burnish/api"
)

// The results are held against real numbers, too, to 1600 bits: more than what is between the squares of the least directions and the last digits of 1.

type real struct{ f *big.Float }

func bits() *big.Float { return new(big.Float).SetPrec(1600) }

func number(x float64) real { return real{bits().SetFloat64(x)} }

func fraction(u uint64) real { return real{bits().SetMantExp(bits().SetUint64(u), -64)} }

func (x real) plus(y real) real { return real{bits().Add(x.f, y.f)} }

func (x real) minus(y real) real { return real{bits().Sub(x.f, y.f)} }

func (x real) times(y real) real { return real{bits().Mul(x.f, y.f)} }

func (x real) over(y real) real { return real{bits().Quo(x.f, y.f)} }

func (x real) square() real { return x.times(x) }

// root takes what is below 0 by a last bit as 0.
func (x real) root() real {
	if x.f.Sign() <= 0 {
		return number(0)
	}
	return real{bits().Sqrt(x.f)}
}

func realPi() real {
	f, _ := bits().SetString("3.14159265358979323846264338327950288419716939937510582097494459230781640628620899862803482534211706798214808651328230664709384460955058")
	return real{f}
}

// realSinCos returns the sums of both series for a full turn times u.
func realSinCos(u real) (sin, cos real) {
	angle := realPi().times(number(2)).times(u)
	sin, cos = number(0), number(1)
	term := number(1)
	for i := 1; i <= 160; i += 4 {
		for j, sum := range []*real{&sin, &cos, &sin, &cos} {
			term = term.times(angle).over(number(float64(i + j)))
			if j == 1 || j == 2 {
				*sum = sum.minus(term)
			} else {
				*sum = sum.plus(term)
			}
		}
	}
	return sin, cos
}

type realVec [3]real

func (v realVec) plus(w realVec) realVec {
	return realVec{v[0].plus(w[0]), v[1].plus(w[1]), v[2].plus(w[2])}
}

func (v realVec) times(k real) realVec { return realVec{k.times(v[0]), k.times(v[1]), k.times(v[2])} }

func (v realVec) dot(w realVec) real {
	return v[0].times(w[0]).plus(v[1].times(w[1])).plus(v[2].times(w[2]))
}

func (v realVec) unit() realVec { return v.times(number(1).over(v.dot(v).root())) }

func (v realVec) stretched(alpha real) realVec {
	return realVec{alpha.times(v[0]), alpha.times(v[1]), v[2]}.unit()
}

func (v realVec) cross(w realVec) realVec {
	across := func(i, j int) real { return v[i].times(w[j]).minus(v[j].times(w[i])) }
	return realVec{across(1, 2), across(2, 0), across(0, 1)}
}

// realNormal goes another way than the chapter: by the point of the disk itself, which is half a round and half a smaller one.
func realNormal(out realVec, alpha real, u1, u2 uint64) realVec {
	one := number(1)
	v := out.stretched(alpha)
	along := realVec{one, number(0), number(0)}
	if v[0].f.Sign() != 0 || v[1].f.Sign() != 0 {
		along = realVec{number(0).minus(v[1]), v[0], number(0)}.unit()
	}
	across := v.cross(along)
	sin, cos := realSinCos(fraction(u2))
	x, y := fraction(u1).root().times(cos), fraction(u1).root().times(sin)
	edge := one.minus(x.square()).root()
	// Where y goes from -edge to edge, it is moved to what goes from -edge * v.Z to edge.
	y = edge.minus(edge.minus(y).times(number(0.5)).times(one.plus(v[2])))
	height := one.minus(x.square()).minus(y.square()).root()
	return along.times(x).plus(across.times(y)).plus(v.times(height)).stretched(alpha)
}

func realDensity(out, normal realVec, alpha real) real {
	one, a2 := number(1), alpha.square()
	d := a2.over(realPi().times(a2.minus(one).times(normal[2].square()).plus(one).square()))
	slope := one.minus(out[2].square()).over(out[2].square())
	visible := number(2).over(one.plus(one.plus(a2.times(slope)).root()))
	dot := out.dot(normal)
	if dot.f.Sign() < 0 {
		dot = number(0)
	}
	if dot.f.Cmp(one.f) > 0 { // of what are no unit vectors
		dot = one
	}
	return visible.times(d).times(dot).over(out[2])
}

// holds reports whether a has x, which may be off by its last bits, as pi is.
func holds(a api.Iv, x real) bool {
	off := bits().Abs(x.times(number(power(-300))).f)
	off.Add(off, number(power(-120)).f)
	return bits().Sub(number(a.Lo).f, off).Cmp(x.f) <= 0 && x.f.Cmp(bits().Add(number(a.Hi).f, off)) <= 0
}

func holdsVec(a api.Vec, v realVec) bool {
	return holds(a.X, v[0]) && holds(a.Y, v[1]) && holds(a.Z, v[2])
}

func inside(part, whole api.Iv) bool {
	return whole.Lo <= part.Lo && part.Lo <= part.Hi && part.Hi <= whole.Hi
}

func insideVec(part, whole api.Vec) bool {
	return inside(part.X, whole.X) && inside(part.Y, whole.Y) && inside(part.Z, whole.Z)
}

// within returns an interval within a, often with an end of it, or a single number; and a number of it.
func within(r *rand.Rand, a api.Iv) (api.Iv, real) {
	x, y := anyFrom(r, a.Lo, a.Hi), anyFrom(r, a.Lo, a.Hi)
	switch r.IntN(4) {
	case 0:
		x = a.Lo
	case 1:
		x = a.Hi
	case 2:
		x = y
	}
	part := iv(min(x, y), max(x, y))
	return part, number(anyFrom(r, part.Lo, part.Hi))
}

func withinVec(r *rand.Rand, v api.Vec) (api.Vec, realVec) {
	x, realX := within(r, v.X)
	y, realY := within(r, v.Y)
	z, realZ := within(r, v.Z)
	return box(x, y, z), realVec{realX, realY, realZ}
}

func TestBoundsP131(t *testing.T) {
	r := rand.New(rand.NewPCG(12, 13))
	for x, whole := range normals(t, 12, anyDrawn) {
		part := x
		var out realVec
		var alpha real
		part.out, out = withinVec(r, x.out)
		part.alpha, alpha = within(r, x.alpha)
		n, err := part.normal()
		if err != api.OK || !insideVec(n, whole) {
			t.Fatalf("%+v: %v; but %+v: %v, %d", x, whole, part, n, err)
		}
		if r.IntN(8) == 0 && !holdsVec(n, realNormal(out, alpha, x.u1, x.u2)) {
			t.Fatalf("%+v: %v, without the real one", part, n)
		}
	}
}

func TestBoundsP132(t *testing.T) {
	r := rand.New(rand.NewPCG(13, 13))
	many := 0
	for range 20000 {
		x := anyAsked(r)
		whole, err := x.density()
		if err != api.OK {
			continue
		}
		many++
		part := x
		var out, normal realVec
		var alpha real
		part.out, out = withinVec(r, x.out)
		part.normal, normal = withinVec(r, x.normal)
		part.alpha, alpha = within(r, x.alpha)
		d, err := part.density()
		if err != api.OK || !inside(d, whole) {
			t.Fatalf("%+v: %v; but %+v: %v, %d", x, whole, part, d, err)
		}
		if !holds(d, realDensity(out, normal, alpha)) {
			t.Fatalf("%+v: %v, without the real one", part, d)
		}
	}
	if many < 10000 {
		t.Errorf("without an error: %d", many)
	}
}

func middle(v api.Vec) [3]float64 {
	half := func(a api.Iv) float64 { return a.Lo + (a.Hi-a.Lo)/2 }
	return [3]float64{half(v.X), half(v.Y), half(v.Z)}
}

// moments returns what is averaged: 1, the components, their squares, and two products.
func moments(n [3]float64) [8]float64 {
	x, y, z := n[0], n[1], n[2]
	return [8]float64{1, x, y, z, x * x, z * z, x * y, x * z}
}

// drawnMoments returns the averages of many draws.
func drawnMoments(t *testing.T, out api.Vec, alpha api.Iv) (sums [8]float64) {
	const each = 64
	for i := range uint64(each) {
		for j := range uint64(each) {
			n, err := drawn{out, alpha, (2*i + 1) * (half / each), (2*j + 1) * (half / each)}.normal()
			if err != api.OK {
				t.Fatal(out, alpha, err)
			}
			for k, m := range moments(middle(n)) {
				sums[k] += m / (each * each)
			}
		}
	}
	return sums
}

// denseMoments returns the averages by the density, over all normals above the horizon.
func denseMoments(t *testing.T, out api.Vec, alpha api.Iv) (sums [8]float64) {
	const rings, slices = 200, 128
	for i := range rings {
		for j := range slices {
			z, angle := (float64(i)+0.5)/rings, 2*math.Pi*(float64(j)+0.5)/slices
			root := math.Sqrt(1 - z*z)
			n := [3]float64{root * math.Cos(angle), root * math.Sin(angle), z}
			d, err := (asked{out, at(n[0], n[1], n[2]), alpha}).density()
			if err != api.OK {
				t.Fatal(out, alpha, err)
			}
			for k, m := range moments(n) {
				sums[k] += m * d.Lo * 2 * math.Pi / (rings * slices)
			}
		}
	}
	return sums
}

// The density is that of what is drawn, and covers all of it: its sum is 1.
func TestDensityOfDrawsP132(t *testing.T) {
	for _, x := range []struct {
		out   api.Vec
		alpha float64
	}{
		{up(), 0.5}, {up(), 1}, {at(0.6, 0, 0.8), 0.4}, {at(0.48, -0.64, 0.6), 1}, {at(-0.64, -0.48, 0.6), 0.5}, {at(0, 0.96, 0.28), 0.7}, {at(-0.8, 0.592, 0.0992), 0.6},
	} {
		got, want := drawnMoments(t, x.out, single(x.alpha)), denseMoments(t, x.out, single(x.alpha))
		for k := range got {
			if math.Abs(got[k]-want[k]) > 1e-3 {
				t.Errorf("%v, %g: %v are drawn on average; by the density there are %v", x.out, x.alpha, got, want)
				break
			}
		}
	}
}
