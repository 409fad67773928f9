package cosine_test

import (
	"math"
	"math/big"
	"math/rand/v2"
	"testing"

	"burnish/api"
	"burnish/trig"
)

// The results are held, bit by bit, against the chapter's formulas: each step is done with fractions, and rounded by itself.

func exact(x float64) *big.Rat { return new(big.Rat).SetFloat64(x) }

func plus(a, b *big.Rat) *big.Rat { return new(big.Rat).Add(a, b) }

func minus(a, b *big.Rat) *big.Rat { return new(big.Rat).Sub(a, b) }

func times(a, b *big.Rat) *big.Rat { return new(big.Rat).Mul(a, b) }

// fraction is the real number of a draw.
func fraction(u uint64) *big.Rat {
	return new(big.Rat).SetFrac(new(big.Int).SetUint64(u), new(big.Int).Lsh(big.NewInt(1), 64))
}

// down and up return the numbers next to x, which are x if it is one.
func down(x *big.Rat) float64 {
	f, _ := x.Float64()
	if f > top {
		return top
	}
	if exact(f).Cmp(x) > 0 {
		f = below(f)
	}
	return f + 0 // which is not -0
}

func up(x *big.Rat) float64 { return 0 - down(new(big.Rat).Neg(x)) }

// rootDown and rootUp return the numbers next to the root of x: the squares tell whether the library's root is one of them.
func rootDown(x float64) float64 {
	f := above(math.Sqrt(x))
	for times(exact(f), exact(f)).Cmp(exact(x)) > 0 {
		f = below(f)
	}
	return f
}

func rootUp(x float64) float64 {
	f := rootDown(x)
	if times(exact(f), exact(f)).Cmp(exact(x)) < 0 {
		f = above(f)
	}
	return f
}

// product returns all products of a number of r, none of which is below 0, and one of a.
func product(r, a api.Iv) api.Iv {
	low, high := r.Lo, r.Hi
	if a.Lo < 0 {
		low = r.Hi
	}
	if a.Hi < 0 {
		high = r.Lo
	}
	return iv(down(times(exact(low), exact(a.Lo))), up(times(exact(high), exact(a.Hi))))
}

func tight(x *big.Rat) api.Iv { return iv(down(x), up(x)) }

func drawOf(t *testing.T, u1, u2 uint64) api.Vec {
	t.Helper()
	one := exact(1)
	a := tight(fraction(u1))
	sin, cos, err := trig.SinCos(tight(fraction(u2)))
	if err != api.OK {
		t.Fatalf("SinCos of the draw %#x: %d", u2, err)
	}
	r := iv(rootDown(a.Lo), rootUp(a.Hi))
	rest := iv(down(minus(one, exact(a.Hi))), up(minus(one, exact(a.Lo))))
	return box(product(r, cos), product(r, sin), iv(rootDown(rest.Lo), rootUp(rest.Hi)))
}

// anyDraw returns draws of all sizes, next to all eighths, and others.
func anyDraw(r *rand.Rand) uint64 {
	switch r.IntN(4) {
	case 0:
		return r.Uint64() >> r.IntN(64)
	case 1:
		return r.Uint64N(8)<<61 + r.Uint64()>>r.IntN(64)
	case 2:
		return r.Uint64N(9)<<61 - r.Uint64()>>r.IntN(64)
	}
	return r.Uint64()
}

func TestFormulaP121(t *testing.T) {
	r := rand.New(rand.NewPCG(1, 12))
	for range 20000 {
		u1, u2 := anyDraw(r), anyDraw(r)
		if checkDraw(t, u1, u2, drawOf(t, u1, u2)); t.Failed() {
			return
		}
	}
}

func TestFormulaOfAllEdgesP121(t *testing.T) {
	var edges []uint64
	for e := range 64 {
		edges = append(edges, 1<<e-1, 1<<e, 1<<e+1, -(1 << e), -(1<<e)-1)
	}
	for i := range uint64(8) {
		edges = append(edges, i<<61-1, i<<61, i<<61+1)
	}
	for _, u := range edges {
		for _, other := range []uint64{0, 1, 1 << 62, 1<<62 + 1, half - 1, half, 3<<62 - 1, 0xb504f333f9de6484, last} {
			checkDraw(t, u, other, drawOf(t, u, other))
			checkDraw(t, other, u, drawOf(t, other, u))
		}
	}
}

func midOf(a api.Iv) float64 {
	difference := down(minus(exact(a.Hi), exact(a.Lo)))
	return down(plus(exact(a.Lo), exact(down(times(exact(0.5), exact(difference))))))
}

// anyNumber returns numbers of all sizes and both signs, those next to 0 and to the greatest one, and those of few digits.
func anyNumber(r *rand.Rand) float64 {
	for {
		x := math.Float64frombits(r.Uint64())
		switch r.IntN(5) {
		case 0:
			x = float64(r.IntN(33)-16) / 8
		case 1:
			x = (2*r.Float64() - 1) * power(-r.IntN(60))
		case 2:
			x = float64(r.IntN(33)-16) * tiny
		case 3:
			x = math.Copysign(top-r.Float64()*power(1023-r.IntN(60)), x)
		}
		if x = x + 0; !math.IsNaN(x) && !math.IsInf(x, 0) {
			return x
		}
	}
}

// anyInterval returns single numbers, the narrowest intervals, narrow ones, and others.
func anyInterval(r *rand.Rand) api.Iv {
	x, y := anyNumber(r), anyNumber(r)
	switch r.IntN(4) {
	case 0:
		return single(x)
	case 1:
		y = max(below(x), -top) + 0
	case 2:
		y = x + x*power(-r.IntN(54)-1)
	}
	if math.IsInf(y, 0) {
		y = 0
	}
	return iv(min(x, y), max(x, y))
}

func TestFormulaP122(t *testing.T) {
	r := rand.New(rand.NewPCG(2, 12))
	for range 50000 {
		x, y, z := anyInterval(r), anyInterval(r), anyInterval(r)
		if checkMid(t, box(x, y, z), api.F3{X: midOf(x), Y: midOf(y), Z: midOf(z)}, api.OK); t.Failed() {
			return
		}
	}
}
