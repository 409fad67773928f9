package micro_test

import (
	"math"
	"math/big"
	"math/rand/v2"
	"slices"
	"testing"

	"burnish/api"
	"burnish/ggx"
	"burnish/vec"
)

// The results are held, bit by bit, against the chapter's formulas in fractions, each step of which is rounded by itself, down for the lower end, up for the upper one; what layer 9 adds is held to be right.

func exact(x float64) *big.Rat { return new(big.Rat).SetFloat64(x) }

// down and up return the numbers next to x, which are x if it is one; up is infinite where there is none.
func down(x *big.Rat) float64 {
	f, _ := x.Float64()
	if math.IsInf(f, 1) {
		return top
	}
	if !math.IsInf(f, -1) && exact(f).Cmp(x) > 0 {
		f = math.Nextafter(f, math.Inf(-1))
	}
	return f + 0 // which is not -0
}

func up(x *big.Rat) float64 { return 0 - down(new(big.Rat).Neg(x)) }

func around(l ...*big.Rat) api.Iv {
	return iv(down(slices.MinFunc(l, (*big.Rat).Cmp)), up(slices.MaxFunc(l, (*big.Rat).Cmp)))
}

// corners returns the interval of what the operation makes of the ends, which has all of what it makes of numbers in between.
func corners(operation func(z, x, y *big.Rat) *big.Rat, a, b api.Iv) api.Iv {
	var l []*big.Rat
	for _, x := range []float64{a.Lo, a.Hi} {
		for _, y := range []float64{b.Lo, b.Hi} {
			l = append(l, operation(new(big.Rat), exact(x), exact(y)))
		}
	}
	return around(l...)
}

func plus(a, b api.Iv) api.Iv { return corners((*big.Rat).Add, a, b) }

func times(a, b api.Iv) api.Iv { return corners((*big.Rat).Mul, a, b) }

// over is asked for divisors above 0 alone.
func over(a, b api.Iv) api.Iv { return corners((*big.Rat).Quo, a, b) }

// square has 0 only if a has it: unlike a times a.
func square(a api.Iv) api.Iv {
	least, greatest := min(math.Abs(a.Lo), math.Abs(a.Hi)), max(math.Abs(a.Lo), math.Abs(a.Hi))
	if a.Lo <= 0 && a.Hi >= 0 {
		least = 0
	}
	low, high := exact(least), exact(greatest)
	return around(low.Mul(low, low), high.Mul(high, high))
}

// root is asked for what is not below 0 alone; the library's root is next to the real one.
func root(a api.Iv) api.Iv {
	low, high := math.Sqrt(a.Lo), math.Sqrt(a.Hi)
	if x := exact(low); x.Mul(x, x).Cmp(exact(a.Lo)) > 0 {
		low = below(low)
	}
	if x := exact(high); x.Mul(x, x).Cmp(exact(a.Hi)) < 0 {
		high = above(high)
	}
	return iv(low, high)
}

// bounded returns a with the ends that are beyond 1 moved there; none is below 0.
func bounded(a api.Iv) api.Iv { return iv(math.Min(a.Lo, 1), math.Min(a.Hi, 1)) }

func halfOf(x arguments) (lean, half api.Iv, err api.Errno) {
	height := plus(x[2], x[5])
	squares := plus(plus(square(plus(x[0], x[3])), square(plus(x[1], x[4]))), square(height))
	if squares.Lo == 0 {
		return api.Iv{}, api.Iv{}, api.ErrZero
	}
	n := root(squares)
	return bounded(over(height, n)), bounded(times(single(0.5), n)), api.OK
}

func lookOf(x arguments) (api.Gloss, api.Errno) {
	lean, half, errHalf := halfOf(x)
	if errHalf != api.OK {
		return api.Gloss{}, errHalf
	}
	g2, errG2 := ggx.G2(x[2], x[5], x.alpha())
	if errG2 != api.OK {
		return api.Gloss{}, errG2
	}
	d, _ := ggx.D(lean, x.alpha())
	g1, _ := ggx.G1(x[5], x.alpha())
	value := over(times(d, g2), times(times(single(4), x[2]), x[5]))
	if math.IsInf(value.Hi, 1) {
		return api.Gloss{}, api.ErrOver
	}
	return api.Gloss{Lean: lean, Half: half, Value: value, Density: over(times(g1, d), times(single(4), x[5]))}, api.OK
}

// anyFrom returns numbers from low to high: those of few digits, next to both ends, and others.
func anyFrom(r *rand.Rand, low, high float64) float64 {
	x, wide := low+(high-low)*r.Float64(), high-low
	switch r.IntN(5) {
	case 0:
		x = low + wide*float64(r.IntN(17))/16
	case 1:
		x = low + wide*r.Float64()*power(-r.IntN(60))
	case 2:
		x = high - wide*r.Float64()*power(-r.IntN(60))
	}
	return max(low, min(high, x)) + 0 // a sum may be rounded beyond them
}

// widened returns an interval from low to high that has x, and goes on to either side by at most a part of what there is.
func widened(r *rand.Rand, x, low, high, part float64) api.Iv {
	wide := (high - low) * part
	return iv(max(low, x-wide*r.Float64())+0, min(high, x+wide*r.Float64())+0)
}

// anyWidth returns by which part intervals are widened: many are numbers, or narrow.
func anyWidth(r *rand.Rand) float64 {
	return float64(r.IntN(3)) * power(-r.IntN(54))
}

func lowOf(place int) float64 {
	switch place {
	case 2, 5:
		return 0
	case alphaAt:
		return minAlpha
	}
	return -1
}

// anyDirections returns in and out: unit vectors, others, and out next to in, or next to its mirror image, or next to what is opposite to it.
func anyDirections(r *rand.Rand) (l [6]float64) {
	for place := range l {
		l[place] = anyFrom(r, lowOf(place), 1)
	}
	if r.IntN(2) == 0 {
		side := [3]float64{1, 1, 1}
		if r.IntN(2) == 0 {
			side = [3]float64{-1, -1, float64(r.IntN(2))}
		}
		for i := range side {
			near := l[i]*side[i] + float64(r.IntN(3)-1)*power(-r.IntN(60))
			l[i+3] = max(lowOf(i), min(1, near)) + 0
		}
	}
	return l
}

// shrunk returns x times a power of two, for all of a direction: all of it, or only its cosine, may be next to 0.
func shrunk(r *rand.Rand, l [6]float64) [6]float64 {
	lower, from := power(-r.IntN(1074)), r.IntN(3)
	if r.IntN(2) == 0 {
		lower = power(-505 - r.IntN(45))
	}
	for i := from; i < 3; i++ {
		l[i], l[i+3] = l[i]*lower+0, l[i+3]*lower+0
	}
	return l
}

func units(r *rand.Rand) (in, out api.Vec) {
	for {
		in, err := vec.Unit(api.F3{X: anyFrom(r, -1, 1), Y: anyFrom(r, -1, 1), Z: anyFrom(r, 0, 1)})
		out, e := vec.Unit(api.F3{X: anyFrom(r, -1, 1), Y: anyFrom(r, -1, 1), Z: anyFrom(r, 0, 1)})
		if err == api.OK && e == api.OK {
			return in, out
		}
	}
}

// anyArguments returns arguments within their limits.
func anyArguments(r *rand.Rand) arguments {
	alpha := widened(r, anyFrom(r, minAlpha, 1), minAlpha, 1, anyWidth(r))
	if r.IntN(3) == 0 {
		in, out := units(r)
		return given(in, out, alpha)
	}
	l := anyDirections(r)
	if r.IntN(4) == 0 {
		l = shrunk(r, l)
	}
	var x arguments
	wide := anyWidth(r)
	for place := range l {
		x[place] = widened(r, l[place], lowOf(place), 1, wide)
	}
	if r.IntN(16) == 0 { // both cosines go from next to 0 up to 1
		x[2], x[5] = iv(power(-512+r.IntN(4))*(1+r.Float64()), 1), iv(power(-512+r.IntN(4))*(1+r.Float64()), 1)
	}
	return x.with(alphaAt, alpha)
}

// met counts which error there was how often, and, of results, what was there to tell apart.
type met struct {
	ok, zero, over        int
	lean1, half1, singles int
}

func (m *met) count(x arguments, lean, half api.Iv, err api.Errno) {
	switch {
	case err == api.ErrZero:
		m.zero++
	case err == api.ErrOver:
		m.over++
	case err == api.OK:
		m.ok++
		if lean.Hi == 1 {
			m.lean1++
		}
		if half == single(1) {
			m.half1++
		}
		if x[0].Lo == x[0].Hi && x[2].Lo == x[2].Hi {
			m.singles++
		}
	}
}

// enough reports whether all that there may be was met, apart from ErrOver, which Half does not have.
func (m *met) enough() bool {
	return m.ok > 5000 && m.zero > 500 && m.lean1 > 500 && m.half1 > 500 && m.singles > 500
}

func TestFormulaP101(t *testing.T) {
	r := rand.New(rand.NewPCG(1, 10))
	var m met
	for range 15000 {
		x := anyArguments(r)
		lean, half, err := halfOf(x)
		if checkHalf(t, x, lean, half, err); t.Failed() {
			return
		}
		m.count(x, lean, half, err)
	}
	if !m.enough() {
		t.Errorf("%+v", m)
	}
}

func TestFormulaP102(t *testing.T) {
	r := rand.New(rand.NewPCG(2, 10))
	var m met
	ofTheValue := 0
	for range 12000 {
		x := anyArguments(r)
		want, err := lookOf(x)
		if checkLook(t, x, want, err); t.Failed() {
			return
		}
		m.count(x, want.Lean, want.Half, err)
		if _, e := ggx.G2(x[2], x[5], x.alpha()); err == api.ErrOver && e == api.OK {
			ofTheValue++
		}
	}
	if !m.enough() || m.over < 100 || ofTheValue < 20 {
		t.Errorf("%+v; too great only in the value: %d", m, ofTheValue)
	}
}

// What Look tells of the half vector is what Half does.
func TestLookHasHalfP102(t *testing.T) {
	r := rand.New(rand.NewPCG(3, 10))
	for range 5000 {
		x := anyArguments(r)
		g, err := x.look()
		lean, half, e := x.half()
		if err == api.OK && (e != api.OK || !same(g.Lean, lean) || !same(g.Half, half)) || e != api.OK && err != e {
			t.Fatalf("Look(%v, %v, %v): %v, %d; but Half: %v, %v, %d", x.in(), x.out(), x.alpha(), g, err, lean, half, e)
		}
	}
}
