package ival_test

import (
	"math"
	"math/big"
	"math/rand/v2"
	"testing"

	"burnish/api"
	"burnish/dir"
	"burnish/ival"
)

// The results are held against fractions, which are exact, by the chapter's own definition of tight.

func fraction(x float64) *big.Rat { return new(big.Rat).SetFloat64(x) }

// roundedDown reports whether x is the greatest number that is not above real.
func roundedDown(real *big.Rat, x float64) bool {
	if !dir.Right(x) || fraction(x).Cmp(real) > 0 {
		return false
	}
	return x == top || fraction(math.Nextafter(x, math.Inf(1))).Cmp(real) > 0
}

// roundedUp reports whether x is the least number that is not below real.
func roundedUp(real *big.Rat, x float64) bool {
	if !dir.Right(x) || fraction(x).Cmp(real) < 0 {
		return false
	}
	return x == -top || fraction(math.Nextafter(x, math.Inf(-1))).Cmp(real) < 0
}

// realResult is that of two single numbers, or of the first alone; roots are not fractions, and are dealt with apart.
func realResult(name string, x, y float64) *big.Rat {
	a, b := fraction(x), fraction(y)
	switch name {
	case "Add":
		return a.Add(a, b)
	case "Sub":
		return a.Sub(a, b)
	case "Mul":
		return a.Mul(a, b)
	case "Div":
		return a.Quo(a, b)
	case "Sqr":
		return a.Mul(a, a)
	case "Neg":
		return a.Neg(a)
	case "Abs":
		return a.Abs(a)
	}
	if (a.Cmp(b) < 0) == (name == "Min") {
		return a
	}
	return b
}

// realRange returns the least and the greatest real result: all of these are reached at ends, or at 0.
func realRange(k call, a, b api.Iv) (least, greatest *big.Rat) {
	points := []float64{a.Lo, a.Hi}
	if a.Lo < 0 && 0 < a.Hi {
		points = append(points, 0)
	}
	others := []float64{0}
	if k.two {
		others = []float64{b.Lo, b.Hi}
	}
	for _, x := range points {
		for _, y := range others {
			real := realResult(k.name, x, y)
			if least == nil || real.Cmp(least) < 0 {
				least = real
			}
			if greatest == nil || real.Cmp(greatest) > 0 {
				greatest = real
			}
		}
	}
	return least, greatest
}

func tightRoot(a, got api.Iv) bool {
	compare := func(r, x float64) int { return new(big.Rat).Mul(fraction(r), fraction(r)).Cmp(fraction(x)) }
	if !dir.Right(got.Lo) || !dir.Right(got.Hi) || got.Lo < 0 || got.Hi < 0 {
		return false
	}
	down := compare(got.Lo, a.Lo) <= 0 && compare(math.Nextafter(got.Lo, math.Inf(1)), a.Lo) > 0
	up := compare(got.Hi, a.Hi) >= 0 && (got.Hi == 0 || compare(math.Nextafter(got.Hi, 0), a.Hi) < 0)
	return down && up
}

// asTold reports whether the operation returned the tight interval, or the error that the chapter asks for, and zero.
func asTold(k call, a, b, got api.Iv, err api.Errno) bool {
	failed := func(want api.Errno) bool { return sameIv(got, api.Iv{}) && err == want }
	switch {
	case k.name == "Div" && b.Lo <= 0 && 0 <= b.Hi:
		return failed(api.ErrZero)
	case k.name == "Sqrt" && a.Lo < 0:
		return failed(api.ErrNeg)
	case k.name == "Sqrt":
		return err == api.OK && tightRoot(a, got)
	}
	least, greatest := realRange(k, a, b)
	if least.Cmp(fraction(-top)) < 0 || greatest.Cmp(fraction(top)) > 0 {
		return failed(api.ErrOver)
	}
	return err == api.OK && roundedDown(least, got.Lo) && roundedUp(greatest, got.Hi)
}

func checkTight(t *testing.T, k call, a, b api.Iv) {
	t.Helper()
	var c ival.Calc
	if got := k.of(&c, a, b); !asTold(k, a, b, got, c.Err()) {
		t.Fatalf("%s of %v and %v: %v, %d", k.name, a, b, got, c.Err())
	}
}

// anyNumber returns numbers of all sizes: by their bits, subnormal, near 1, with few digits.
func anyNumber(r *rand.Rand) float64 {
	sign := float64(1 - 2*r.IntN(2))
	var x float64
	switch r.IntN(6) {
	case 0:
		x = sign * float64(r.IntN(64)) * tiny
	case 1, 2, 3:
		x = sign * math.Ldexp(float64(r.Uint64N(1<<53)), r.IntN(20)-62)
	case 4:
		x = sign * math.Ldexp(float64(r.IntN(16)), r.IntN(240)-120)
	default:
		x = math.Float64frombits(r.Uint64())
	}
	if x == 0 || math.IsNaN(x) || math.IsInf(x, 0) {
		return 0
	}
	return x
}

// anyInterval returns single numbers, narrow intervals and wide ones.
func anyInterval(r *rand.Rand) api.Iv {
	x, y := anyNumber(r), anyNumber(r)
	switch r.IntN(5) {
	case 0:
		y = x
	case 1:
		y, _ = dir.Next(x, r.IntN(2) == 0)
	}
	return iv(min(x, y), max(x, y))
}

func TestEdgesAreTightP23(t *testing.T) {
	pairs := between([]float64{-top, -power(600), -3, -1, -1. / 3, -tiny, 0, tiny, 1. / 3, 1, 3, power(600), top})
	for _, k := range calls() {
		if !k.two {
			for _, a := range between(edges()) {
				checkTight(t, k, a, api.Iv{})
			}
			continue
		}
		for _, a := range pairs {
			for _, b := range pairs {
				checkTight(t, k, a, b)
			}
		}
	}
}

func TestAnyIsTightP23(t *testing.T) {
	r := rand.New(rand.NewPCG(1, 2))
	for _, k := range calls() {
		for range 6000 {
			checkTight(t, k, anyInterval(r), anyInterval(r))
		}
	}
}
