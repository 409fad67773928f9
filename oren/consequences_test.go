package oren_test

import (
	"math/big"
	"math/rand/v2"
	"testing"

	"burnish/api"
	"burnish/lambert"
	"burnish/oren"
)

// realIn returns a real number of a: an end, or one in between.
func realIn(r *rand.Rand, a api.Iv) *big.Rat {
	return plus(exact(a.Lo), times(minus(exact(a.Hi), exact(a.Lo)), big.NewRat(r.Int64N(5), 4)))
}

// realPi is pi to a hundred digits.
func realPi() *big.Rat {
	x, _ := new(big.Rat).SetString("3.1415926535897932384626433832795028841971693993751058209749445923078164062862089986280348253421170679")
	return x
}

// holds reports whether a has x, which may be off by its last digits.
func holds(a api.Iv, x *big.Rat) bool {
	off := new(big.Rat).SetFrac64(1, 1<<60)
	off = times(off, times(off, times(off, off)))
	return exact(a.Lo).Cmp(plus(x, off)) <= 0 && minus(x, off).Cmp(exact(a.Hi)) <= 0
}

func greaterOf(a, b *big.Rat) *big.Rat {
	if a.Cmp(b) < 0 {
		return b
	}
	return a
}

func realPair(sigma *big.Rat) (a, b *big.Rat) {
	growth := minus(over(realPi(), exact(2)), big.NewRat(2, 3))
	a = over(exact(1), plus(realPi(), times(growth, sigma)))
	return a, times(sigma, a)
}

// realSlope is not asked for a number above 0 where both cosines are 0.
func realSlope(in, out, dot *big.Rat) *big.Rat {
	s := minus(dot, times(in, out))
	if s.Sign() > 0 {
		s = over(s, greaterOf(in, out))
	}
	if s.Cmp(exact(1)) > 0 {
		return exact(1)
	}
	return greaterOf(s, exact(-1))
}

func TestLambertP84(t *testing.T) {
	r := rand.New(rand.NewPCG(4, 8))
	for range 20000 {
		x := anyArguments(r).with(1, single(0))
		got, err := value(x)
		want, _ := lambert.Value(x[0])
		if err != api.OK {
			continue
		}
		const wider = 1 + 0x1p-50
		if got.Lo > want.Lo || got.Hi < want.Hi || got.Lo*wider+2*tiny < want.Lo || got.Hi > want.Hi*wider+2*tiny {
			t.Fatalf("Value(%v) is %v, but %v by layer 7", x, got, want)
		}
		checkValue(t, plain().with(0, x[0]).with(1, single(0)), got, api.OK) // whatever the directions
	}
	whole, _ := lambert.Value(single(1))
	checkValue(t, plain().with(1, single(0)), whole, api.OK)
}

func TestExchangedP84(t *testing.T) {
	r := rand.New(rand.NewPCG(5, 8))
	for range 20000 {
		x := anyArguments(r)
		other := x.with(2, x[3]).with(3, x[2])
		tilt, err := slope(x)
		checkSlope(t, other, tilt, err)
		v, err := value(x)
		if checkValue(t, other, v, err); t.Failed() {
			return
		}
	}
}

func TestNeverBelow0P84(t *testing.T) {
	r := rand.New(rand.NewPCG(6, 8))
	for range 20000 {
		x := anyArguments(r)
		if r.IntN(2) == 0 {
			x[1], x[4] = iv(anyPart(r), 1), iv(-1, 0-anyPart(r))
		}
		if v, _ := value(x); v.Lo < 0 || v.Lo > v.Hi || v.Hi > 1 {
			t.Fatalf("Value(%v): %v", x, v)
		}
	}
}

// ordered returns intervals with the lesser, and with the greater, ends of both.
func ordered(a, b api.Iv) (lesser, greater api.Iv) {
	return iv(min(a.Lo, b.Lo), min(a.Hi, b.Hi)), iv(max(a.Lo, b.Lo), max(a.Hi, b.Hi))
}

func TestGrowsP84(t *testing.T) {
	r := rand.New(rand.NewPCG(7, 8))
	for range 20000 {
		x := anyArguments(r)
		place := 4 * r.IntN(2) // that of rho, or of dot
		less, more := ordered(x[place], anyArguments(r)[place])
		first, _ := value(x.with(place, less))
		second, err := value(x.with(place, more))
		if err == api.OK && (first.Lo > second.Lo || first.Hi > second.Hi) {
			t.Fatalf("Value(%v) is %v for %v, but %v for %v in the place %d", x, first, less, second, more, place)
		}
	}
}

func TestGrowsByStepsP84(t *testing.T) {
	for place, steps := range map[int][]float64{0: {0, 0.125, 0.5, 1}, 4: {-0.625, -0.25, 0, 0.25, 0.375, 0.5, 0.75}} {
		last := single(-1)
		for _, step := range steps {
			v, err := value(numbers(0.5, 0.75, 0.5, 0.75, 0.25).with(place, single(step)))
			if v.Lo <= last.Hi || err != api.OK {
				t.Errorf("%g in the place %d: %v, %d; for the one ahead %v", step, place, v, err, last)
			}
			last = v
		}
	}
}

// part returns an interval within a, often with an end of it, or a single number; and a real number of it.
func part(r *rand.Rand, a api.Iv) (api.Iv, *big.Rat) {
	x := realIn(r, a)
	low, high := down(x), up(x)
	switch r.IntN(4) {
	case 0:
		low = a.Lo
	case 1:
		high = a.Hi
	}
	return iv(low, high), x
}

func inside(f, all api.Iv) bool { return all.Lo <= f.Lo && f.Lo <= f.Hi && f.Hi <= all.Hi }

func TestBoundsOfPairP84(t *testing.T) {
	r := rand.New(rand.NewPCG(8, 8))
	for range 10000 {
		sigma := anyBetween(r)
		narrow, x := part(r, sigma)
		a, b, _ := oren.Pair(sigma)
		lesserA, lesserB, err := oren.Pair(narrow)
		if !inside(lesserA, a) || !inside(lesserB, b) || err != api.OK {
			t.Fatalf("Pair(%v) is %v, %v, but Pair(%v) is %v, %v, %d", sigma, a, b, narrow, lesserA, lesserB, err)
		}
		if realA, realB := realPair(x); !holds(lesserA, realA) || !holds(lesserB, realB) {
			t.Fatalf("Pair(%v) is %v, %v, without that of %v", narrow, lesserA, lesserB, x)
		}
	}
}

func TestBoundsP84(t *testing.T) {
	r := rand.New(rand.NewPCG(9, 8))
	for range 10000 {
		x := anyArguments(r)
		var narrow arguments
		var numbers [5]*big.Rat
		for i := range x {
			narrow[i], numbers[i] = part(r, x[i])
		}
		wholeSlope, err := slope(x)
		wholeValue, _ := value(x)
		if err != api.OK {
			continue
		}
		tilt, err := slope(narrow)
		v, _ := value(narrow)
		if !inside(tilt, wholeSlope) || !inside(v, wholeValue) || err != api.OK {
			t.Fatalf("the slope and value of %v are %v, %v, but those of %v are %v, %v, %d", x, wholeSlope, wholeValue, narrow, tilt, v, err)
		}
		realTilt := realSlope(numbers[2], numbers[3], numbers[4])
		a, b := realPair(numbers[1])
		if !holds(tilt, realTilt) || !holds(v, times(numbers[0], plus(a, times(b, realTilt)))) {
			t.Fatalf("the slope and value of %v are %v, %v, without those of %v", narrow, tilt, v, numbers)
		}
	}
}
