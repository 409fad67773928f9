package ival_test

import (
	"math/rand/v2"
	"testing"

	"burnish/api"
	"burnish/dir"
	"burnish/ival"
)

// within returns a number of a: an end, 0, or one in between.
func within(r *rand.Rand, a api.Iv) float64 {
	if r.IntN(3) == 0 && ival.Has(a, 0) {
		return 0
	}
	half := func(x float64) float64 { y, _ := dir.Mul(x, 0.5, false); return y }
	x := []float64{a.Lo, a.Hi}[r.IntN(2)]
	for range r.IntN(8) {
		next, _ := dir.Add(half(x), half([]float64{a.Lo, a.Hi}[r.IntN(2)]), false)
		if ival.Has(a, next) {
			x = next
		}
	}
	return x
}

func part(r *rand.Rand, a api.Iv) api.Iv {
	x, y := within(r, a), within(r, a)
	return iv(min(x, y), max(x, y))
}

func inside(a, b api.Iv) bool { return ival.Has(b, a.Lo) && ival.Has(b, a.Hi) }

func hasRoot(a api.Iv, x float64) bool {
	return a.Lo >= 0 && realResult("Sqr", a.Lo, 0).Cmp(fraction(x)) <= 0 && realResult("Sqr", a.Hi, 0).Cmp(fraction(x)) >= 0
}

func hasReal(k call, a api.Iv, x, y float64) bool {
	if k.name == "Sqrt" {
		return hasRoot(a, x)
	}
	real := realResult(k.name, x, y)
	return fraction(a.Lo).Cmp(real) <= 0 && real.Cmp(fraction(a.Hi)) <= 0
}

// eachResult does something with operations on intervals that have a result.
func eachResult(r *rand.Rand, do func(k call, a, b, result api.Iv)) {
	for _, k := range calls() {
		for range 5000 {
			a, b := anyInterval(r), anyInterval(r)
			var c ival.Calc
			if result := k.of(&c, a, b); c.Err() == api.OK {
				do(k, a, b, result)
			}
		}
	}
}

func TestRealResultsAreInP24(t *testing.T) {
	r := rand.New(rand.NewPCG(3, 4))
	eachResult(r, func(k call, a, b, result api.Iv) {
		for range 4 {
			if x, y := within(r, a), within(r, b); !ival.Right(result) || !hasReal(k, result, x, y) {
				t.Fatalf("%s of %v and %v is %v, without that of %g and %g", k.name, a, b, result, x, y)
			}
		}
	})
}

func TestSmallerOperandsP24(t *testing.T) {
	r := rand.New(rand.NewPCG(5, 6))
	eachResult(r, func(k call, a, b, result api.Iv) {
		for range 4 {
			x, y := part(r, a), part(r, b)
			var c ival.Calc
			if got := k.of(&c, x, y); c.Err() != api.OK || !inside(got, result) {
				t.Fatalf("%s of %v and %v is %v, but of %v and %v %v, %d", k.name, a, b, result, x, y, got, c.Err())
			}
		}
	})
}

func TestSquaresAreProductsP24(t *testing.T) {
	r := rand.New(rand.NewPCG(7, 8))
	smaller := 0
	for range 5000 {
		a := anyInterval(r)
		var c ival.Calc
		square, product := c.Sqr(a), c.Mul(a, a)
		if c.Err() != api.OK {
			continue
		}
		if !inside(square, product) {
			t.Fatalf("the squares of %v are %v, the products %v", a, square, product)
		}
		if square != product {
			smaller++
		}
	}
	if smaller == 0 {
		t.Error("no square was smaller than a product")
	}
}
