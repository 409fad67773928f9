package trig_test

import (
	"math"
	"math/big"
	"math/rand/v2"
	"testing"

	"burnish/api"
	"burnish/trig"
)

// The real sine and cosine are computed here with so many bits that even the least number has hundreds left.
const bits = 2000

func float(x float64) *big.Float { return new(big.Float).SetPrec(bits).SetFloat64(x) }

// arcOf returns the angle whose tangent is 1/n, times one, by its series.
func arcOf(one *big.Int, n int64) *big.Int {
	sum, x := new(big.Int), new(big.Int).Quo(one, big.NewInt(n))
	for k := int64(1); x.Sign() != 0; k += 2 {
		part := new(big.Int).Quo(x, big.NewInt(k))
		if k%4 == 3 {
			part.Neg(part)
		}
		sum.Add(sum, part)
		x.Quo(x, big.NewInt(n*n))
	}
	return sum
}

// fullTurn returns 2 pi, by Machin's formula.
func fullTurn() *big.Float {
	one := new(big.Int).Lsh(big.NewInt(1), bits)
	eighth := arcOf(one, 5)
	eighth.Lsh(eighth, 2).Sub(eighth, arcOf(one, 239))
	return new(big.Float).SetPrec(bits).SetMantExp(new(big.Float).SetInt(eighth), 3-bits)
}

// realOf returns the sine and the cosine of an angle, by their series as they stand in books, without any quarters.
func realOf(angle *big.Float) (sine, cosine *big.Float) {
	sums := [2]*big.Float{float(0), float(0)}
	term := float(1)
	for k := 0; k < 12 || term.Sign() != 0 && term.MantExp(nil) > -bits; k++ {
		if k%4 < 2 {
			sums[k%2].Add(sums[k%2], term)
		} else {
			sums[k%2].Sub(sums[k%2], term)
		}
		term.Mul(term, angle)
		term.Quo(term, float(float64(k+1)))
	}
	return sums[1], sums[0]
}

// holds reports whether real, which is a little off itself, is in a.
func holds(a api.Iv, real *big.Float) bool {
	off := new(big.Float).SetPrec(bits).SetMantExp(float(1), 100-bits)
	low, high := new(big.Float).SetPrec(bits).Add(real, off), new(big.Float).SetPrec(bits).Sub(real, off)
	return float(a.Lo).Cmp(low) <= 0 && float(a.Hi).Cmp(high) >= 0
}

func checkReal(t *testing.T, turn *big.Float, u api.Iv, x float64) {
	t.Helper()
	sine, cosine, err := trig.SinCos(u)
	s, c := realOf(new(big.Float).SetPrec(bits).Mul(turn, float(x)))
	if !holds(sine, s) || !holds(cosine, c) || err != api.OK {
		t.Errorf("SinCos(%v): %v, %v, %d; at %g they are %s, %s", u, sine, cosine, err, x, s.Text('g', 20), c.Text('g', 20))
	}
}

func TestRealOfSingleNumbersP42(t *testing.T) {
	turn := fullTurn()
	for _, x := range numbers(3, 200) {
		checkReal(t, turn, single(x), x)
	}
}

func TestRealOfAllInAnIntervalP42(t *testing.T) {
	turn, r := fullTurn(), rand.New(rand.NewPCG(6, 7))
	for _, u := range intervals(8, 100) {
		for _, x := range []float64{0.25, 0.5, 0.75, u.Lo, u.Hi, max(u.Lo, min(u.Hi, u.Lo+r.Float64()*(u.Hi-u.Lo)))} {
			if u.Lo <= x && x <= u.Hi {
				checkReal(t, turn, u, x)
			}
		}
	}
}

func TestSingleNumbersAreNarrowP42(t *testing.T) {
	for _, x := range numbers(9, 20000) {
		sine, cosine, err := trig.SinCos(single(x))
		for _, a := range []api.Iv{sine, cosine} {
			if !(a.Lo <= a.Hi) || a.Hi-a.Lo > power(-48) || a.Lo < -1 || a.Hi > 1 || a.Lo == 0 && math.Signbit(a.Lo) || a.Hi == 0 && math.Signbit(a.Hi) || err != api.OK {
				t.Fatalf("SinCos(%g): %v, %v, %d", x, sine, cosine, err)
			}
		}
	}
}

func TestExactNumbersP42(t *testing.T) {
	for i, want := range [][2]float64{{0, 1}, {1, 0}, {0, -1}, {-1, 0}} {
		if sine, cosine, err := trig.SinCos(single(float64(i) / 4)); !same(sine, single(want[0])) || !same(cosine, single(want[1])) || err != api.OK {
			t.Errorf("%d quarters: %v, %v, %d", i, sine, cosine, err)
		}
	}
}
