package lambert_test

import (
	"math/big"
	"math/rand/v2"
	"testing"

	"burnish/api"
	"burnish/ival"
	"burnish/lambert"
)

// mustValue, and mustCap, are asked for what has no error.
func mustValue(t *testing.T, rho api.Iv) api.Iv {
	t.Helper()
	v, err := lambert.Value(rho)
	if err != api.OK {
		t.Fatalf("Value(%v): %d", rho, err)
	}
	return v
}

func mustCap(t *testing.T, rho, cos api.Iv) api.Iv {
	t.Helper()
	v, err := lambert.Cap(rho, cos)
	if err != api.OK {
		t.Fatalf("Cap(%v, %v): %d", rho, cos, err)
	}
	return v
}

func has(a api.Iv, x *big.Rat) bool { return exact(a.Lo).Cmp(x) <= 0 && x.Cmp(exact(a.Hi)) <= 0 }

// realIn returns a real number of a: an end, or one in between.
func realIn(r *rand.Rand, a api.Iv) *big.Rat {
	return plus(exact(a.Lo), times(minus(exact(a.Hi), exact(a.Lo)), big.NewRat(r.Int64N(5), 4)))
}

func TestBothEndsP73(t *testing.T) {
	r := rand.New(rand.NewPCG(3, 7))
	given := within()
	for range 2000 {
		given = append(given, anyInterval(r))
	}
	for _, rho := range given {
		checkCap(t, rho, single(0), rho, api.OK)
		checkCap(t, rho, single(1), single(0), api.OK)
	}
}

func TestFallsWithCosineP73(t *testing.T) {
	r := rand.New(rand.NewPCG(4, 7))
	for range 20000 {
		rho, a, b := anyInterval(r), anyInterval(r), anyInterval(r)
		lesser, greater := iv(min(a.Lo, b.Lo), min(a.Hi, b.Hi)), iv(max(a.Lo, b.Lo), max(a.Hi, b.Hi))
		more, less := mustCap(t, rho, lesser), mustCap(t, rho, greater)
		if less.Lo > more.Lo || less.Hi > more.Hi {
			t.Fatalf("Cap(%v, ..) is %v for %v, but %v for %v", rho, more, lesser, less, greater)
		}
	}
	for _, cos := range []float64{0, 0.25, 0.5, 0.75} {
		more, less := mustCap(t, single(1), single(cos)), mustCap(t, single(1), single(cos+0.25))
		if less.Hi >= more.Lo {
			t.Errorf("the caps of %g and the next: %v, %v", cos, more, less)
		}
	}
}

func TestSumOfPartsP73(t *testing.T) {
	r := rand.New(rand.NewPCG(5, 7))
	for range 20000 {
		var whole, values ival.Calc
		left, rho, sum := single(1), single(0), single(0)
		for range 2 + r.IntN(4) {
			part := iv(0, min(left.Lo, anyNumber(r)))
			if part.Lo = part.Hi; r.IntN(2) == 0 {
				part.Lo *= anyNumber(r)
			}
			left = whole.Sub(left, single(part.Hi))
			rho = whole.Add(rho, part)
			sum = values.Add(sum, mustValue(t, part))
		}
		rho.Hi = min(rho.Hi, 1) // it may have been rounded beyond
		if _, common := ival.Meet(mustValue(t, rho), sum); !common || whole.Err() != api.OK || values.Err() != api.OK {
			t.Fatalf("Value(%v) is %v, but those of its parts are %v", rho, mustValue(t, rho), sum)
		}
	}
}

// What a ring scatters is held as a real number, and as the difference of two caps.
func TestRingP73(t *testing.T) {
	r := rand.New(rand.NewPCG(6, 7))
	for range 20000 {
		rho, x, y := anyInterval(r), anyNumber(r), anyNumber(r)
		a, b := min(x, y), max(x, y)
		var c ival.Calc
		difference := c.Sub(mustCap(t, rho, single(a)), mustCap(t, rho, single(b)))
		width := c.Sub(single(b), single(a))
		bound := c.Mul(c.Mul(c.Mul(c.Mul(c.Num(2), ival.Pi()), mustValue(t, rho)), iv(a, b)), width)
		ring := times(realIn(r, rho), minus(times(exact(b), exact(b)), times(exact(a), exact(a))))
		if !has(difference, ring) || !has(bound, ring) || c.Err() != api.OK {
			t.Fatalf("the ring from %v to %v of %v: the caps differ by %v, the bound is %v, %d", a, b, rho, difference, bound, c.Err())
		}
	}
}

// The real results are within, and narrower arguments have narrower results.
func TestBoundsP73(t *testing.T) {
	r := rand.New(rand.NewPCG(7, 7))
	inside := func(f, all api.Iv) bool { return all.Lo <= f.Lo && f.Lo <= f.Hi && f.Hi <= all.Hi }
	for range 20000 {
		rho, cos := anyInterval(r), anyInterval(r)
		value, whole := mustValue(t, rho), mustCap(t, rho, cos)
		if value.Lo < 0 || value.Hi > 0.318309887 || whole.Lo < 0 || whole.Hi > rho.Hi {
			t.Fatalf("Value(%v), Cap(.., %v): %v, %v", rho, cos, value, whole)
		}
		one, other := realIn(r, rho), realIn(r, cos)
		if x := times(one, minus(exact(1), times(other, other))); !has(whole, x) {
			t.Fatalf("Cap(%v, %v) is %v, without %v", rho, cos, whole, x)
		}
		part, piece := iv(down(one), up(one)), iv(down(other), up(other))
		if !inside(mustValue(t, part), value) || !inside(mustCap(t, part, piece), whole) {
			t.Fatalf("Value(%v), Cap(.., %v) are not within those of %v, %v", part, piece, rho, cos)
		}
	}
}
