package dir_test

import (
	"math"
	"math/big"
	"math/rand/v2"
	"testing"

	"burnish/api"
	"burnish/dir"
)

// The results are held against fractions, which are exact, by the chapter's own definition of rounding.

func fraction(x float64) *big.Rat { return new(big.Rat).SetFloat64(x) }

func realResult(name string, a, b float64) *big.Rat {
	x, y := fraction(a), fraction(b)
	switch name {
	case "Add":
		return x.Add(x, y)
	case "Sub":
		return x.Sub(x, y)
	case "Mul":
		return x.Mul(x, y)
	}
	return x.Quo(x, y)
}

// roundedDown reports whether x is the greatest number that is not above real, or there is none and the error says so.
func roundedDown(real *big.Rat, x float64, e api.Errno) bool {
	if real.Cmp(fraction(-top)) < 0 {
		return same(x, 0) && e == api.ErrOver
	}
	if e != api.OK || !dir.Right(x) || fraction(x).Cmp(real) > 0 {
		return false
	}
	return x == top || fraction(math.Nextafter(x, math.Inf(1))).Cmp(real) > 0
}

// roundedUp is the same for the least number that is not below real.
func roundedUp(real *big.Rat, x float64, e api.Errno) bool {
	if real.Cmp(fraction(top)) > 0 {
		return same(x, 0) && e == api.ErrOver
	}
	if e != api.OK || !dir.Right(x) || fraction(x).Cmp(real) < 0 {
		return false
	}
	return x == -top || fraction(math.Nextafter(x, math.Inf(-1))).Cmp(real) < 0
}

func checkPair(t *testing.T, c pairCall, a, b float64) {
	t.Helper()
	if c.name == "Div" && b == 0 {
		return
	}
	real := realResult(c.name, a, b)
	if x, e := c.of(a, b, false); !roundedDown(real, x, e) {
		t.Errorf("%s(%g, %g), down: %g, %d", c.name, a, b, x, e)
	}
	if x, e := c.of(a, b, true); !roundedUp(real, x, e) {
		t.Errorf("%s(%g, %g), up: %g, %d", c.name, a, b, x, e)
	}
}

func checkRoot(t *testing.T, a float64) {
	t.Helper()
	compare := func(r float64) int { return new(big.Rat).Mul(fraction(r), fraction(r)).Cmp(fraction(a)) }
	down, e := dir.Sqrt(a, false)
	if e != api.OK || !dir.Right(down) || down < 0 || compare(down) > 0 || compare(math.Nextafter(down, math.Inf(1))) <= 0 {
		t.Errorf("Sqrt(%g), down: %g, %d", a, down, e)
	}
	up, e := dir.Sqrt(a, true)
	if e != api.OK || !dir.Right(up) || up < 0 || compare(up) < 0 || up > 0 && compare(math.Nextafter(up, math.Inf(-1))) >= 0 {
		t.Errorf("Sqrt(%g), up: %g, %d", a, up, e)
	}
}

// anyNumber returns numbers of all sizes: by their bits, subnormal, near 1, with few digits.
func anyNumber(r *rand.Rand) float64 {
	sign := float64(1 - 2*r.IntN(2))
	var x float64
	switch r.IntN(5) {
	case 0:
		x = sign * float64(r.IntN(64)) * tiny
	case 1:
		x = sign * math.Float64frombits(r.Uint64N(1<<53)) // about the least one that is not subnormal
	case 2:
		x = sign * math.Ldexp(float64(r.Uint64N(1<<53)), r.IntN(20)-62)
	case 3:
		x = sign * math.Ldexp(float64(r.IntN(16)), r.IntN(240)-120)
	default:
		x = math.Float64frombits(r.Uint64())
	}
	if x == 0 || math.IsNaN(x) || math.IsInf(x, 0) {
		return 0
	}
	return x
}

func TestAnyPairP12(t *testing.T) {
	r := rand.New(rand.NewPCG(1, 2))
	for _, c := range pairCalls() {
		for _, a := range edges() {
			for _, b := range edges() {
				checkPair(t, c, a, b)
			}
		}
		for range 8000 {
			checkPair(t, c, anyNumber(r), anyNumber(r))
		}
	}
}

// Sums whose operands are as far apart as the words are wide, or as the digits of a number are many.
func TestFarSumsP12(t *testing.T) {
	for far := 45; far <= 140; far++ {
		for _, a := range []float64{1, 1 + power(-52), 2 - power(-52), 1.5} {
			for _, b := range []float64{1, 1 + power(-52), 2 - power(-52), 1 + power(-40)} {
				for _, c := range pairCalls()[:2] {
					checkPair(t, c, a, math.Ldexp(b, -far))
					checkPair(t, c, -math.Ldexp(b, far), a)
				}
			}
		}
	}
}

func TestAnyRootP12(t *testing.T) {
	r := rand.New(rand.NewPCG(3, 4))
	for _, a := range edges() {
		checkRoot(t, math.Abs(a))
	}
	for range 8000 {
		checkRoot(t, math.Abs(anyNumber(r)))
		whole := math.Ldexp(float64(r.Uint64N(1<<26)), r.IntN(980)-500)
		square := whole * whole
		for _, a := range []float64{square, math.Nextafter(square, 0), math.Nextafter(square, math.Inf(1))} {
			checkRoot(t, a)
		}
	}
}

func TestAnyNextP13(t *testing.T) {
	r := rand.New(rand.NewPCG(5, 6))
	numbers := edges()
	for range 20000 {
		numbers = append(numbers, anyNumber(r))
	}
	for _, x := range numbers {
		for _, up := range []bool{false, true} {
			want, err := math.Nextafter(x, math.Inf(-1)), api.OK
			if up {
				want = math.Nextafter(x, math.Inf(1))
			}
			if math.IsInf(want, 0) {
				want, err = 0, api.ErrOver
			}
			if want == 0 { // Nextafter returns -0, too
				want = 0
			}
			if y, e := dir.Next(x, up); !same(y, want) || e != err {
				t.Errorf("Next(%g, %t): %g, %d; want %g, %d", x, up, y, e, want, err)
			}
		}
	}
}
