package trig_test

import (
	"math"
	"math/big"
	"math/rand/v2"
	"slices"
	"testing"

	"burnish/api"
	"burnish/trig"
)

// The results are held, bit by bit, against the chapter's formulas, whose sums, products and quotients are computed here as fractions and rounded then.

func fraction(x float64) *big.Rat { return new(big.Rat).SetFloat64(x) }

func down(real *big.Rat) float64 {
	x, _ := real.Float64()
	if fraction(x).Cmp(real) > 0 {
		x = math.Nextafter(x, math.Inf(-1))
	}
	return x + 0 // not -0
}

func up(real *big.Rat) float64 {
	x, _ := real.Float64()
	if fraction(x).Cmp(real) < 0 {
		x = math.Nextafter(x, math.Inf(1))
	}
	return x + 0
}

// combined is the tight interval of what an operation makes of both, which it is at their ends for all that stand here.
func combined(a, b api.Iv, of func(z, x, y *big.Rat) *big.Rat) api.Iv {
	var l []*big.Rat
	for _, x := range []float64{a.Lo, a.Hi} {
		for _, y := range []float64{b.Lo, b.Hi} {
			l = append(l, of(new(big.Rat), fraction(x), fraction(y)))
		}
	}
	return iv(down(slices.MinFunc(l, (*big.Rat).Cmp)), up(slices.MaxFunc(l, (*big.Rat).Cmp)))
}

func plus(a, b api.Iv) api.Iv { return combined(a, b, (*big.Rat).Add) }

func minus(a, b api.Iv) api.Iv { return combined(a, b, (*big.Rat).Sub) }

func times(a, b api.Iv) api.Iv { return combined(a, b, (*big.Rat).Mul) }

func over(a, b api.Iv) api.Iv { return combined(a, b, (*big.Rat).Quo) }

func wantedQuarter(x float64) int {
	switch {
	case x < 0.125:
		return 0
	case x < 0.375:
		return 1
	case x < 0.625:
		return 2
	case x < 0.875:
		return 3
	}
	return 4
}

func wantedSeries(t api.Iv, m int) api.Iv {
	y := times(t, t) // t has one sign: so these are its squares
	s := iv(minus(single(1), over(y, single(float64(m*(m+1))))).Lo, 1)
	for k := m - 2; k >= 1; k -= 2 {
		s = minus(single(1), times(over(y, single(float64(k*(k+1)))), s))
	}
	return s
}

func wantedAt(x float64) (sine, cosine api.Iv) {
	pi := iv(math.Pi, math.Nextafter(math.Pi, 4)) // the constant is below pi
	j := wantedQuarter(x)
	t := times(plus(pi, pi), minus(single(x), single(float64(j)/4)))
	s, c := times(t, wantedSeries(t, 20)), wantedSeries(t, 19)
	negative := func(a api.Iv) api.Iv { return minus(single(0), a) }
	switch j {
	case 1:
		s, c = c, negative(s)
	case 2:
		s, c = negative(s), negative(c)
	case 3:
		s, c = negative(c), s
	}
	within := func(a api.Iv) api.Iv { return iv(max(a.Lo, -1), min(a.Hi, 1)) }
	return within(s), within(c)
}

func hull(l ...api.Iv) api.Iv {
	all := l[0]
	for _, a := range l {
		all = iv(min(all.Lo, a.Lo), max(all.Hi, a.Hi))
	}
	return all
}

func wantedOf(u api.Iv) (sine, cosine api.Iv) {
	s1, c1 := wantedAt(u.Lo)
	s2, c2 := wantedAt(u.Hi)
	sines, cosines := []api.Iv{s1, s2}, []api.Iv{c1, c2}
	if u.Lo <= 0.25 && 0.25 <= u.Hi {
		sines = append(sines, single(1))
	}
	if u.Lo <= 0.5 && 0.5 <= u.Hi {
		cosines = append(cosines, single(-1))
	}
	if u.Lo <= 0.75 && 0.75 <= u.Hi {
		sines = append(sines, single(-1))
	}
	return hull(sines...), hull(cosines...)
}

// anyNumber returns numbers from 0 to 1: of all sizes, near the edges, with few digits.
func anyNumber(r *rand.Rand) float64 {
	switch r.IntN(5) {
	case 0:
		return math.Float64frombits(r.Uint64N(math.Float64bits(1) + 1))
	case 1:
		return float64(r.IntN(65)) / 64
	case 2:
		e := float64(r.IntN(8)) / 8
		return max(0, min(1, e+(r.Float64()-0.5)*power(-r.IntN(53))))
	}
	return r.Float64()
}

func numbers(seed uint64, many int) []float64 {
	r := rand.New(rand.NewPCG(seed, 4))
	l := edges()
	for range many {
		l = append(l, anyNumber(r))
	}
	return l
}

// intervals is those from one edge to another one, narrow ones, and others behind them.
func intervals(seed uint64, many int) []api.Iv {
	r := rand.New(rand.NewPCG(seed, 5))
	var l []api.Iv
	for _, lo := range edges() {
		for _, hi := range edges() {
			if lo <= hi && r.IntN(8) == 0 {
				l = append(l, iv(lo, hi))
			}
		}
	}
	for range many {
		x, y := anyNumber(r), anyNumber(r)
		if r.IntN(2) == 0 {
			y = min(1, x+r.Float64()*power(-r.IntN(53)))
		}
		l = append(l, iv(min(x, y), max(x, y)))
	}
	return l
}

func checkFormula(t *testing.T, u api.Iv) {
	t.Helper()
	sine, cosine, err := trig.SinCos(u)
	wantSine, wantCosine := wantedOf(u)
	if !same(sine, wantSine) || !same(cosine, wantCosine) || err != api.OK {
		t.Errorf("SinCos(%v): %v, %v, %d; want %v, %v", u, sine, cosine, err, wantSine, wantCosine)
	}
}

func TestSingleNumbersByTheFormulaP41(t *testing.T) {
	for _, x := range numbers(1, 1000) {
		checkFormula(t, single(x))
	}
}

func TestIntervalsByTheFormulaP41(t *testing.T) {
	for _, u := range intervals(2, 500) {
		checkFormula(t, u)
	}
}

// For nearly all numbers a series of another length, or with a narrower start, is rounded to the same; each of these tells one of them apart.
func TestLengthOfTheSeriesP41(t *testing.T) {
	for _, x := range []float64{
		0x1.d4869c7158152p-4, 0x1.fff2bb07a0368p-4, // a cosine that ends at 17
		0x1.c40743720f143p-4, 0x1.ff96943d206a1p-4, // one that ends at 21, or starts with less than up to 1
		0x1.cf3d7ef4eb335p-4, 0x1.fdd6c9af19e87p-4, // a sine that ends at 18
		0x1.d5ffce7eff50ep-4, 0x1.fffa1bd00061bp-4, // one that ends at 22, or starts with less than up to 1
	} {
		checkFormula(t, single(x))
	}
}
