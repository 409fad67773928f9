package ggx_test

import (
	"math"
	"math/big"
	"math/rand/v2"
	"testing"

	"burnish/api"
	"burnish/ggx"
)

// The results are held, bit by bit, against the chapter's formulas in fractions: each step is rounded by itself, down for the lower end, up for the upper one.

func exact(x float64) *big.Rat { return new(big.Rat).SetFloat64(x) }

func plus(a, b *big.Rat) *big.Rat { return new(big.Rat).Add(a, b) }

func minus(a, b *big.Rat) *big.Rat { return new(big.Rat).Sub(a, b) }

func times(a, b *big.Rat) *big.Rat { return new(big.Rat).Mul(a, b) }

func over(a, b *big.Rat) *big.Rat { return new(big.Rat).Quo(a, b) }

// down and up return the numbers next to x, which are x if it is one; infinite where there is none.
func down(x *big.Rat) float64 {
	f, _ := x.Float64()
	if f > top {
		return top
	}
	if f >= -top && exact(f).Cmp(x) > 0 {
		f = math.Nextafter(f, math.Inf(-1))
	}
	return f + 0 // which is not -0
}

func up(x *big.Rat) float64 { return 0 - down(new(big.Rat).Neg(x)) }

// all returns the interval of what the operation makes of the ends, which has all of what it makes of numbers in between.
func all(operation func(a, b *big.Rat) *big.Rat, a, b api.Iv) api.Iv {
	var least, greatest *big.Rat
	for _, x := range []float64{a.Lo, a.Hi} {
		for _, y := range []float64{b.Lo, b.Hi} {
			z := operation(exact(x), exact(y))
			if least == nil || z.Cmp(least) < 0 {
				least = z
			}
			if greatest == nil || z.Cmp(greatest) > 0 {
				greatest = z
			}
		}
	}
	return iv(down(least), up(greatest))
}

// square is asked for what is not below 0 alone.
func square(a api.Iv) api.Iv { return all(times, a, a) }

// root is asked for what is not below 0 alone; the library's root is next to the real one.
func root(a api.Iv) api.Iv {
	low, high := math.Sqrt(a.Lo), math.Sqrt(a.Hi)
	if times(exact(low), exact(low)).Cmp(exact(a.Lo)) > 0 {
		low = below(low)
	}
	if times(exact(high), exact(high)).Cmp(exact(a.Hi)) < 0 {
		high = above(high)
	}
	return iv(low, high)
}

// pi goes from and to what the example of layer 2 says.
func pi() api.Iv {
	const units = 7074237752028440
	return iv(math.Ldexp(units, -51), math.Ldexp(units+1, -51))
}

func spreadOf(cos, alpha api.Iv) api.Iv {
	return all(plus, all(times, all(minus, square(alpha), single(1)), square(cos)), single(1))
}

func distributionOf(cos, alpha api.Iv) (api.Iv, api.Errno) {
	return all(over, square(alpha), all(times, pi(), square(spreadOf(cos, alpha)))), api.OK
}

func facingOf(cos, alpha api.Iv) (api.Iv, api.Errno) {
	return all(over, all(minus, single(1), square(cos)), spreadOf(cos, alpha)), api.OK
}

func lambdaOf(cos, alpha api.Iv) (api.Iv, api.Errno) {
	if square(cos).Lo == 0 {
		return api.Iv{}, api.ErrZero
	}
	t := all(over, all(minus, single(1), square(cos)), square(cos))
	if t.Hi > top {
		return api.Iv{}, api.ErrOver
	}
	length := root(all(plus, single(1), all(times, square(alpha), t)))
	l := all(times, single(0.5), all(minus, length, single(1)))
	return iv(math.Max(l.Lo, 0), math.Max(l.Hi, 0)), api.OK
}

// visibleOf is G1, or G2, for one cosine after the other.
func visibleOf(alpha api.Iv, cosines ...api.Iv) (api.Iv, api.Errno) {
	sum := single(1)
	for _, cos := range cosines {
		l, err := lambdaOf(cos, alpha)
		if err != api.OK {
			return api.Iv{}, err
		}
		sum = all(plus, sum, l)
	}
	return all(over, single(1), sum), api.OK
}

func firstOf(cos, alpha api.Iv) (api.Iv, api.Errno) { return visibleOf(alpha, cos) }

// anyFrom returns numbers from low to high: those of few digits, of all sizes, next to both ends, and others.
func anyFrom(r *rand.Rand, low, high float64) float64 {
	x := low + (high-low)*r.Float64()
	near := (high - low) * r.Float64() * power(-r.IntN(60))
	switch r.IntN(6) {
	case 0:
		x = low + (high-low)*float64(r.IntN(17))/16
	case 1:
		x = low + near
	case 2:
		x = high - near
	case 3:
		x = math.Float64frombits(math.Float64bits(low) + r.Uint64N(math.Float64bits(high)-math.Float64bits(low)+1))
	}
	return max(low, min(high, x)) // a sum may be rounded beyond them
}

// anyInterval returns single numbers, narrow intervals, and others, from low to high.
func anyInterval(r *rand.Rand, low, high float64) api.Iv {
	x := anyFrom(r, low, high)
	switch r.IntN(4) {
	case 0:
		return single(x)
	case 1:
		return iv(x, min(high, x+(high-low)*r.Float64()*power(-r.IntN(54))))
	}
	y := anyFrom(r, low, high)
	return iv(min(x, y), max(x, y))
}

func anyCosine(r *rand.Rand) api.Iv { return anyInterval(r, 0, 1) }

func anyAlpha(r *rand.Rand) api.Iv { return anyInterval(r, minAlpha, 1) }

// against holds the function against its formula, and returns how often there was which error.
func (f function) against(t *testing.T, formula func(cos, alpha api.Iv) (api.Iv, api.Errno)) map[api.Errno]int {
	t.Helper()
	r := rand.New(rand.NewPCG(1, 9))
	errors := map[api.Errno]int{}
	for range 12000 {
		cos, alpha := anyCosine(r), anyAlpha(r)
		want, err := formula(cos, alpha)
		if f.check(t, cos, alpha, want, err); t.Failed() {
			break
		}
		errors[err]++
	}
	return errors
}

// enough reports whether each error that there may be was met, and none as well.
func enough(errors map[api.Errno]int) bool {
	return errors[api.OK] > 5000 && errors[api.ErrZero] > 500 && errors[api.ErrOver] > 10
}

func TestFormulaOfDP91(t *testing.T) {
	distribution().against(t, distributionOf)
}

func TestFormulaOfFacingP91(t *testing.T) {
	facing().against(t, facingOf)
}

func TestFormulaOfLambdaP91(t *testing.T) {
	if errors := hidden().against(t, lambdaOf); !enough(errors) {
		t.Errorf("errors: %v", errors)
	}
}

func TestFormulaOfG1P91(t *testing.T) {
	if errors := visible().against(t, firstOf); !enough(errors) {
		t.Errorf("errors: %v", errors)
	}
}

func TestFormulaOfG2P91(t *testing.T) {
	r := rand.New(rand.NewPCG(2, 9))
	errors, exchanged := map[api.Errno]int{}, 0
	for range 12000 {
		in, out, alpha := anyCosine(r), anyCosine(r), anyAlpha(r)
		want, err := visibleOf(alpha, in, out)
		if checkG2(t, in, out, alpha, want, err); t.Failed() {
			return
		}
		errors[err]++
		if other, _ := ggx.G2(out, in, alpha); other != want {
			exchanged++
		}
	}
	if !enough(errors) || exchanged < 50 {
		t.Errorf("errors: %v; results that are others for exchanged directions: %d", errors, exchanged)
	}
}
