package oren_test

import (
	"math"
	"math/big"
	"math/rand/v2"
	"testing"

	"burnish/api"
)

// The results are held, bit by bit, against the chapter's formulas in fractions: each step is rounded by itself, down for the lower end, up for the upper one.

func exact(x float64) *big.Rat { return new(big.Rat).SetFloat64(x) }

func plus(a, b *big.Rat) *big.Rat { return new(big.Rat).Add(a, b) }

func minus(a, b *big.Rat) *big.Rat { return new(big.Rat).Sub(a, b) }

func times(a, b *big.Rat) *big.Rat { return new(big.Rat).Mul(a, b) }

func over(a, b *big.Rat) *big.Rat { return new(big.Rat).Quo(a, b) }

// down and up return the numbers next to x, which are x if it is one; infinite where there is none.
func down(x *big.Rat) float64 {
	f, _ := x.Float64()
	if f > top {
		return top
	}
	if f >= -top && exact(f).Cmp(x) > 0 {
		f = math.Nextafter(f, math.Inf(-1))
	}
	return f + 0 // which is not -0
}

func up(x *big.Rat) float64 { return 0 - down(new(big.Rat).Neg(x)) }

// all returns the interval of what the operation makes of the ends, which has all of what it makes of numbers in between.
func all(operation func(a, b *big.Rat) *big.Rat, a, b api.Iv) api.Iv {
	var least, greatest *big.Rat
	for _, x := range []float64{a.Lo, a.Hi} {
		for _, y := range []float64{b.Lo, b.Hi} {
			z := operation(exact(x), exact(y))
			if least == nil || z.Cmp(least) < 0 {
				least = z
			}
			if greatest == nil || z.Cmp(greatest) > 0 {
				greatest = z
			}
		}
	}
	return iv(down(least), up(greatest))
}

// pi goes from and to what the example of layer 2 says.
func pi() api.Iv {
	const units = 7074237752028440
	return iv(math.Ldexp(units, -51), math.Ldexp(units+1, -51))
}

func pairOf(sigma api.Iv) (a, b api.Iv) {
	growth := all(minus, all(over, pi(), single(2)), all(over, single(2), single(3)))
	a = all(over, single(1), all(plus, pi(), all(times, growth, sigma)))
	return a, all(times, sigma, a)
}

func slopeOf(in, out, dot api.Iv) (api.Iv, api.Errno) {
	s := all(minus, dot, all(times, in, out))
	greater := iv(max(in.Lo, out.Lo), max(in.Hi, out.Hi))
	if s.Hi > 0 {
		if greater.Lo == 0 {
			return api.Iv{}, api.ErrZero
		}
		divided := all(over, iv(max(s.Lo, 0), s.Hi), greater)
		if s.Hi = divided.Hi; s.Lo >= 0 {
			s.Lo = divided.Lo
		}
	}
	if s.Hi > top {
		return api.Iv{}, api.ErrOver
	}
	return iv(bounded(s.Lo, -1), bounded(s.Hi, -1)), api.OK
}

func valueOf(x arguments) (api.Iv, api.Errno) {
	tilt, err := slopeOf(x[2], x[3], x[4])
	if err != api.OK {
		return api.Iv{}, err
	}
	a, b := pairOf(x[1])
	v := all(times, x[0], all(plus, a, all(times, b, tilt)))
	return iv(bounded(v.Lo, 0), bounded(v.Hi, 0)), api.OK
}

// bounded is the number from least to 1 that is next to x.
func bounded(x, least float64) float64 {
	if x < least {
		return least
	}
	if x > 1 {
		return 1
	}
	return x
}

// anyPart returns numbers from 0 to 1: those of few digits, of all sizes, next to both ends, and others.
func anyPart(r *rand.Rand) float64 {
	switch r.IntN(5) {
	case 0:
		return float64(r.IntN(17)) / 16
	case 1:
		return r.Float64() * power(-r.IntN(60))
	case 2:
		return 1 - r.Float64()*power(-r.IntN(60))
	case 3:
		return math.Float64frombits(r.Uint64N(math.Float64bits(1) + 1))
	}
	return r.Float64()
}

// anyBetween returns single numbers, narrow intervals, and others, from 0 to 1.
func anyBetween(r *rand.Rand) api.Iv {
	x, y := anyPart(r), anyPart(r)
	switch r.IntN(3) {
	case 0:
		return single(x)
	case 1:
		return iv(x, min(1, x+y*power(-r.IntN(60))))
	}
	return iv(min(x, y), max(x, y))
}

// anySigned returns intervals from -1 to 1, of both sides of 0, and over it.
func anySigned(r *rand.Rand) api.Iv {
	x := anyBetween(r)
	switch r.IntN(3) {
	case 0:
		return iv(0-x.Hi, 0-x.Lo)
	case 1:
		return iv(0-anyPart(r), x.Hi)
	}
	return x
}

// anyArguments returns arguments of all kinds; many of them with a dot next to the product of in and out, where the slope changes its sign.
func anyArguments(r *rand.Rand) arguments {
	x := arguments{anyBetween(r), anyBetween(r), anyBetween(r), anyBetween(r), anySigned(r)}
	if r.IntN(3) == 0 {
		near := func(product float64) float64 {
			return max(0, min(1, product*(1+float64(r.IntN(5)-2)*power(-r.IntN(56)))))
		}
		y, z := near(x[2].Lo*x[3].Lo), near(x[2].Hi*x[3].Hi)
		x[4] = iv(min(y, z), max(y, z))
	}
	if r.IntN(4) == 0 { // the greater cosine may be 0, or next to it
		near := power(-900 - r.IntN(200))
		x[2].Lo, x[3].Lo = x[2].Lo*near, x[3].Lo*near
	}
	return x
}

func TestFormulaP81(t *testing.T) {
	r := rand.New(rand.NewPCG(1, 8))
	for range 10000 {
		sigma := anyBetween(r)
		a, b := pairOf(sigma)
		if checkPair(t, sigma, a, b, api.OK); t.Failed() {
			return
		}
	}
}

func TestFormulaP82(t *testing.T) {
	r := rand.New(rand.NewPCG(2, 8))
	times, signs := map[api.Errno]int{}, map[[2]bool]int{}
	for range 30000 {
		x := anyArguments(r)
		want, err := slopeOf(x[2], x[3], x[4])
		if checkSlope(t, x, want, err); t.Failed() {
			return
		}
		times[err]++
		signs[[2]bool{want.Lo < 0, want.Hi > 0}]++
	}
	if times[api.OK] < 20000 || times[api.ErrZero] < 500 || times[api.ErrOver] < 500 {
		t.Errorf("errors: %v", times)
	}
	for _, of := range [][2]bool{{true, false}, {true, true}, {false, true}} {
		if signs[of] < 2000 {
			t.Errorf("signs: %v", signs)
		}
	}
}

func TestFormulaP83(t *testing.T) {
	r := rand.New(rand.NewPCG(3, 8))
	times := map[api.Errno]int{}
	for range 12000 {
		x := anyArguments(r)
		want, err := valueOf(x)
		if checkValue(t, x, want, err); t.Failed() {
			return
		}
		times[err]++
	}
	if times[api.OK] < 8000 || times[api.ErrZero] < 200 || times[api.ErrOver] < 200 {
		t.Errorf("errors: %v", times)
	}
}
