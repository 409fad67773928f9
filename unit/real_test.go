package unit_test

import (
	"math"
	"math/big"
	"math/rand/v2"
	"testing"

	"burnish/api"
	"burnish/unit"
)

// The results are held against integers and fractions of any length, which are exact, by the chapter's own words.

var two64 = new(big.Int).Lsh(big.NewInt(1), 64)

func integer(u uint64) *big.Int { return new(big.Int).SetUint64(u) }

func fraction(x float64) *big.Rat { return new(big.Rat).SetFloat64(x) }

// tight reports whether a is the tight interval of real, from 0 to 1.
func tight(real *big.Rat, a api.Iv) bool {
	above, below := math.Nextafter(a.Lo, 2), math.Nextafter(a.Hi, -1)
	return fraction(a.Lo).Cmp(real) <= 0 && fraction(above).Cmp(real) > 0 && fraction(a.Hi).Cmp(real) >= 0 && fraction(below).Cmp(real) < 0
}

// anyDraw returns draws of all sizes.
func anyDraw(r *rand.Rand) uint64 { return r.Uint64() >> r.IntN(64) }

// manyDraws is those named, and others behind them.
func manyDraws(seed uint64) []uint64 {
	r := rand.New(rand.NewPCG(seed, 3))
	l := draws()
	for range 10000 {
		l = append(l, anyDraw(r), r.Uint64())
	}
	return l
}

// anyWeight returns numbers from 0 to 1: of all sizes, near 0, near 1, with few digits.
func anyWeight(r *rand.Rand) float64 {
	switch r.IntN(5) {
	case 0:
		return float64(r.Uint64N(1<<53+1)) * power(-53)
	case 1:
		return float64(r.Uint64N(1<<53)) * power(-54-r.IntN(80))
	case 2:
		return 1 - float64(r.Uint64N(1<<10))*power(-53)
	case 3:
		return float64(r.Uint64N(17)) / 16
	}
	return math.Float64frombits(r.Uint64N(math.Float64bits(1) + 1))
}

// weights is those that the chapter names, or next to them.
func weights() []float64 {
	return []float64{
		0, power(-1074), power(-1022) - power(-1074), power(-1022), power(-600), power(-65), power(-64) - power(-117), power(-64), power(-64) + power(-116),
		power(-63) - power(-116), power(-63), 2.5 * power(-64), 3 * power(-64), power(-53), power(-11) + power(-63), 0.1, 0.25, 1. / 3, 0.5 - power(-54), 0.5, 0.5 + power(-53), 0.75, 0.9,
		1 - power(-52), 1 - power(-53), 1,
	}
}

// boundOf is w * 2^64 without its fraction.
func boundOf(w float64) *big.Int {
	x := new(big.Rat).Mul(fraction(w), new(big.Rat).SetInt(two64))
	return new(big.Int).Quo(x.Num(), x.Denom())
}

// around is draws next to the bound on both sides, the first and the last ones, and some more.
func around(r *rand.Rand, b *big.Int) []uint64 {
	l := []uint64{0, 1, last - 1, last}
	for by := int64(-2); by <= 2; by++ {
		if u := new(big.Int).Add(b, big.NewInt(by)); u.IsUint64() {
			l = append(l, u.Uint64())
		}
	}
	for range 4 {
		l = append(l, anyDraw(r), r.Uint64())
	}
	return l
}

// splitOf is what Split has to return, for a weight that is right.
func splitOf(u uint64, b *big.Int) (bool, *big.Int) {
	first, size := new(big.Int), b
	below := integer(u).Cmp(b) < 0
	if !below {
		first, size = b, new(big.Int).Sub(two64, b)
	}
	x := new(big.Int).Sub(integer(u), first)
	x.Mul(x, two64)
	return below, x.Quo(x, size)
}

// eachSplit does something with all weights named, and others, and draws around the bound of each.
func eachSplit(many int, do func(u uint64, w float64, b *big.Int)) {
	r := rand.New(rand.NewPCG(1, 2))
	l := weights()
	for range many {
		l = append(l, anyWeight(r))
	}
	for _, w := range l {
		b := boundOf(w)
		for _, u := range around(r, b) {
			do(u, w, b)
		}
	}
}

func TestOfIsTightP31(t *testing.T) {
	for _, u := range manyDraws(1) {
		if a := unit.Of(u); !tight(new(big.Rat).SetFrac(integer(u), two64), a) || math.Signbit(a.Lo) {
			t.Fatalf("Of(%d): %v", u, a)
		}
	}
}

func TestAnyHalfP32(t *testing.T) {
	for _, u := range manyDraws(2) {
		want := new(big.Int).Lsh(integer(u), 1)
		if u >= half {
			want.Sub(want, two64)
		}
		if below, left := unit.Half(u); below != (u < half) || integer(left).Cmp(want) != 0 {
			t.Fatalf("Half(%d): %t, %d; want %d", u, below, left, want)
		}
	}
}

func TestAnySplitP33(t *testing.T) {
	eachSplit(5000, func(u uint64, w float64, b *big.Int) {
		side, want := splitOf(u, b)
		if below, left, err := unit.Split(u, w); below != side || integer(left).Cmp(want) != 0 || err != api.OK {
			t.Fatalf("Split(%d, %g): %t, %d, %d; want %t, %d", u, w, below, left, err, side, want)
		}
	})
}
