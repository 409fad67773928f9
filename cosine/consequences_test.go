package cosine_test

import (
	"math"
	"math/big"
	"math/rand/v2"
	"testing"

	"burnish/api"
	"burnish/cosine"
	"burnish/ival"
	"burnish/lambert"
	"burnish/trig"
)

func mustDraw(t *testing.T, u1, u2 uint64) api.Vec {
	t.Helper()
	v, err := cosine.Draw(u1, u2)
	if err != api.OK {
		t.Fatalf("Draw(%#x, %#x): %d", u1, u2, err)
	}
	return v
}

// square returns the least, and the greatest, square of the numbers of a.
func square(a api.Iv) (least, greatest *big.Rat) {
	least, greatest = times(exact(a.Lo), exact(a.Lo)), times(exact(a.Hi), exact(a.Hi))
	if least.Cmp(greatest) > 0 {
		least, greatest = greatest, least
	}
	if a.Lo <= 0 && a.Hi >= 0 {
		least = new(big.Rat)
	}
	return least, greatest
}

func between(low, x, high *big.Rat) bool { return low.Cmp(x) <= 0 && x.Cmp(high) <= 0 }

// What is between has the real number of the draw, too.
func TestSquaresP123(t *testing.T) {
	r := rand.New(rand.NewPCG(3, 12))
	for range 20000 {
		u1, u2 := anyDraw(r), anyDraw(r)
		v := mustDraw(t, u1, u2)
		a := fraction(u1)
		leastX, greatestX := square(v.X)
		leastY, greatestY := square(v.Y)
		if !between(plus(leastX, leastY), a, plus(greatestX, greatestY)) {
			t.Fatalf("Draw(%#x, %#x): %v: the squares of X and Y add up to another number", u1, u2, v)
		}
		if least, greatest := square(v.Z); !between(least, minus(exact(1), a), greatest) {
			t.Fatalf("Draw(%#x, %#x): %v: the square of Z is another number", u1, u2, v)
		}
	}
}

// lastOf returns how many draws are below a part of all, but for a fraction of one.
func lastOf(part float64) uint64 {
	many, _ := new(big.Float).SetMantExp(big.NewFloat(part), 64).Uint64()
	return many
}

// Of a draw that is further from the bound than by what is rounded on the way, the cosine is surely on its side.
func TestFractionOfAllDrawsP123(t *testing.T) {
	const off = 1 << 14
	r := rand.New(rand.NewPCG(4, 12))
	cosines := []float64{0.25, 0.5, 0.75, 0.01, 0.99, power(-10), 1 - power(-40)}
	for range 2000 {
		cosines = append(cosines, r.Float64())
	}
	for _, least := range cosines {
		part, err := lambert.Cap(single(1), single(least))
		if err != api.OK {
			t.Fatal(least, err)
		}
		low, high := lastOf(part.Lo), lastOf(part.Hi)
		for range 5 {
			more := r.Uint64() >> r.IntN(64)
			if u := low - off - more; u < low {
				if v := mustDraw(t, u, r.Uint64()); v.Z.Lo < least {
					t.Fatalf("Draw(%#x, ..): the cosine %v is below %g, behind %#x", u, v.Z, least, low)
				}
			}
			if u := high + off + more; u > high {
				if v := mustDraw(t, u, r.Uint64()); v.Z.Hi > least {
					t.Fatalf("Draw(%#x, ..): the cosine %v is above %g, ahead of %#x", u, v.Z, least, high)
				}
			}
		}
	}
}

// The cosines of directions that are drawn by their cosine are two thirds on average, and their squares one half.
func TestAveragesP123(t *testing.T) {
	const many = 4096
	var sum, squares float64
	for i := range uint64(many) {
		z := mustDraw(t, i<<52+1<<51, i*0x9e3779b97f4a7c15).Z.Lo
		sum += z / many
		squares += z * z / many
	}
	if math.Abs(sum-2.0/3) > 1e-5 || math.Abs(squares-0.5) > 1e-9 {
		t.Errorf("on average %g, and %g", sum, squares)
	}
}

// The direction across the angle has nothing of what is drawn, and that along it has the root of a.
func TestAngleP123(t *testing.T) {
	r := rand.New(rand.NewPCG(5, 12))
	for range 20000 {
		u1, u2 := anyDraw(r), anyDraw(r)
		v := mustDraw(t, u1, u2)
		sin, cos, _ := trig.SinCos(tight(fraction(u2)))
		var c ival.Calc
		across := c.Sub(c.Mul(v.X, sin), c.Mul(v.Y, cos))
		along := c.Add(c.Mul(v.X, cos), c.Mul(v.Y, sin))
		a := fraction(u1)
		if low, high := square(along); !ival.Has(across, 0) || !between(low, a, high) || along.Hi < 0 || c.Err() != api.OK {
			t.Fatalf("Draw(%#x, %#x): %v: %v across, %v along, %d", u1, u2, v, across, along, c.Err())
		}
		if x, _ := a.Float64(); across.Hi-across.Lo > math.Sqrt(x)*power(-46) {
			t.Fatalf("Draw(%#x, %#x): %v: %v across", u1, u2, v, across)
		}
	}
}

// The library's own sine and cosine are off by a last bit or two.
func TestAngleOfTheLibraryP123(t *testing.T) {
	r := rand.New(rand.NewPCG(6, 12))
	for range 20000 {
		u1, u2 := anyDraw(r), anyDraw(r)
		v := mustDraw(t, u1, u2)
		root := math.Sqrt(float64(u1) * power(-64))
		sin, cos := math.Sincos(2 * math.Pi * (float64(u2) * power(-64)))
		near := func(a api.Iv, x float64) bool { return a.Lo-root*1e-14 <= x && x <= a.Hi+root*1e-14 }
		if !near(v.X, root*cos) || !near(v.Y, root*sin) {
			t.Fatalf("Draw(%#x, %#x): %v; about %g, %g", u1, u2, v, root*cos, root*sin)
		}
	}
}

// Around the normal the quarters come in their order: where X and Y are above 0, where Y alone is, where none is, and where X alone is.
func TestQuartersP123(t *testing.T) {
	r := rand.New(rand.NewPCG(7, 12))
	for range 5000 {
		for quarter, signs := range [4][2]float64{{1, 1}, {-1, 1}, {-1, -1}, {1, -1}} {
			u2 := uint64(quarter)<<62 + 1<<20 + r.Uint64N(1<<62-1<<21)
			v := mustDraw(t, r.Uint64()|1<<40, u2)
			if v.X.Lo*signs[0] <= 0 || v.X.Hi*signs[0] <= 0 || v.Y.Lo*signs[1] <= 0 || v.Y.Hi*signs[1] <= 0 {
				t.Fatalf("the draw %#x of the quarter %d: %v", u2, quarter, v)
			}
		}
	}
}

// No direction is below the horizon, or too great: it is one that the layers below take.
func TestLimitsOfDirectionsP123(t *testing.T) {
	r := rand.New(rand.NewPCG(8, 12))
	within := func(a api.Iv, least float64) bool { return ival.Right(a) && least <= a.Lo && a.Hi <= 1 }
	for range 20000 {
		u1, u2 := anyDraw(r), anyDraw(r)
		if v := mustDraw(t, u1, u2); !within(v.X, -1) || !within(v.Y, -1) || !within(v.Z, 0) {
			t.Fatalf("Draw(%#x, %#x): %v", u1, u2, v)
		}
	}
}

// The draw u1 alone tells the cosine, which never rises with it.
func TestCosineFallsP123(t *testing.T) {
	r := rand.New(rand.NewPCG(9, 12))
	for range 20000 {
		u, more := anyDraw(r), anyDraw(r)
		u, more = min(u, more), max(u, more)
		first, second := mustDraw(t, u, r.Uint64()).Z, mustDraw(t, more, r.Uint64()).Z
		if second.Lo > first.Lo || second.Hi > first.Hi || u == more && first != second {
			t.Fatalf("the cosine of %#x is %v, that of %#x is %v", u, first, more, second)
		}
	}
}

// A midpoint is not above the real one, either, and, where the difference is a number at all, not further below it than by what is rounded away.
func TestMidpointsAreWithinP123(t *testing.T) {
	r := rand.New(rand.NewPCG(10, 12))
	for range 50000 {
		a := anyInterval(r)
		m, err := cosine.Mid(box(a, a, a))
		if !ival.Has(a, m.X) || m.Y != m.X || m.Z != m.X || err != api.OK {
			t.Fatalf("Mid of %v: %v, %d", a, m, err)
		}
		middle := times(plus(exact(a.Lo), exact(a.Hi)), big.NewRat(1, 2))
		rounded := plus(times(exact(max(math.Abs(a.Lo), math.Abs(a.Hi))), exact(power(-51))), exact(2*tiny))
		far := !math.IsInf(a.Hi-a.Lo, 0) && minus(middle, exact(m.X)).Cmp(rounded) > 0
		if far || exact(m.X).Cmp(middle) > 0 {
			t.Fatalf("Mid of %v: %g, above the middle, or too far from it", a, m.X)
		}
	}
}

// What is drawn is a box that has its midpoints.
func TestMidpointsOfDrawsP123(t *testing.T) {
	r := rand.New(rand.NewPCG(11, 12))
	for range 5000 {
		v := mustDraw(t, anyDraw(r), anyDraw(r))
		if m, err := cosine.Mid(v); !ival.Has(v.X, m.X) || !ival.Has(v.Y, m.Y) || !ival.Has(v.Z, m.Z) || err != api.OK {
			t.Fatalf("Mid(%v): %v, %d", v, m, err)
		}
	}
}
