package lambert_test

import (
	"math"
	"math/big"
	"math/rand/v2"
	"testing"

	"burnish/api"
)

// The results are held, bit by bit, against the chapter's formulas in fractions: each step is rounded by itself, down for the lower end, up for the upper one.

func exact(x float64) *big.Rat { return new(big.Rat).SetFloat64(x) }

func plus(a, b *big.Rat) *big.Rat { return new(big.Rat).Add(a, b) }

func minus(a, b *big.Rat) *big.Rat { return new(big.Rat).Sub(a, b) }

func times(a, b *big.Rat) *big.Rat { return new(big.Rat).Mul(a, b) }

func over(a, b *big.Rat) *big.Rat { return new(big.Rat).Quo(a, b) }

// down and up return the numbers next to x, which are x if it is one.
func down(x *big.Rat) float64 {
	f, _ := x.Float64()
	if exact(f).Cmp(x) > 0 {
		return below(f)
	}
	return f
}

func up(x *big.Rat) float64 {
	f, _ := x.Float64()
	if exact(f).Cmp(x) < 0 {
		return above(f)
	}
	return f
}

// piEnds is what the interval of pi goes from and to, by the example of layer 2.
func piEnds() (low, high *big.Rat) {
	const units = 7074237752028440
	return big.NewRat(units, 1<<51), big.NewRat(units+1, 1<<51)
}

// byPi is a / pi, and byCap rho * (1 - sqr(cos)), where nothing is below 0, and no cosine above 1.
func byPi(a api.Iv) api.Iv {
	low, high := piEnds()
	return iv(down(over(exact(a.Lo), high)), up(over(exact(a.Hi), low)))
}

func byCap(rho, cos api.Iv) api.Iv {
	one := exact(1)
	square := iv(down(times(exact(cos.Lo), exact(cos.Lo))), up(times(exact(cos.Hi), exact(cos.Hi))))
	rest := iv(down(minus(one, exact(square.Hi))), up(minus(one, exact(square.Lo))))
	return iv(down(times(exact(rho.Lo), exact(rest.Lo))), up(times(exact(rho.Hi), exact(rest.Hi))))
}

// anyNumber returns numbers from 0 to 1: those of few digits, of all sizes, next to both ends, and others.
func anyNumber(r *rand.Rand) float64 {
	switch r.IntN(5) {
	case 0:
		return float64(r.IntN(17)) / 16
	case 1:
		return r.Float64() * power(-r.IntN(60))
	case 2:
		return 1 - r.Float64()*power(-r.IntN(60))
	case 3:
		return math.Float64frombits(r.Uint64N(math.Float64bits(1) + 1))
	}
	return r.Float64()
}

// anyInterval returns single numbers, narrow intervals, and others, from 0 to 1.
func anyInterval(r *rand.Rand) api.Iv {
	x, y := anyNumber(r), anyNumber(r)
	switch r.IntN(3) {
	case 0:
		return single(x)
	case 1:
		return iv(x, min(1, x+y*power(-r.IntN(60))))
	}
	return iv(min(x, y), max(x, y))
}

func TestFormulaP71(t *testing.T) {
	r := rand.New(rand.NewPCG(1, 7))
	for range 20000 {
		a := anyInterval(r)
		want := byPi(a)
		checkValue(t, a, want, api.OK)
		checkDensity(t, a, want, api.OK)
	}
}

func TestFormulaP72(t *testing.T) {
	r := rand.New(rand.NewPCG(2, 7))
	for range 20000 {
		rho, cos := anyInterval(r), anyInterval(r)
		checkCap(t, rho, cos, byCap(rho, cos), api.OK)
	}
}
