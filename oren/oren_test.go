package oren_test

import (
	"math"
	"testing"

	"burnish/api"
	"burnish/ival"
	"burnish/oren"
)

const (
	top  = math.MaxFloat64
	tiny = math.SmallestNonzeroFloat64
)

func power(e int) float64 { return math.Ldexp(1, e) }

func iv(lo, hi float64) api.Iv { return api.Iv{Lo: lo, Hi: hi} }

func single(x float64) api.Iv { return iv(x, x) }

// same reports whether two intervals have the same bits, so that -0 is not 0.
func same(a, b api.Iv) bool {
	return math.Float64bits(a.Lo) == math.Float64bits(b.Lo) && math.Float64bits(a.Hi) == math.Float64bits(b.Hi)
}

func above(x float64) float64 { return math.Nextafter(x, top) }

func below(x float64) float64 { return math.Nextafter(x, -top) }

// wrongOnes is what is not a right interval; most of them would be within the limits if they were one.
func wrongOnes() []api.Iv {
	l := []api.Iv{iv(1, 0), iv(0.5, 0.25), iv(tiny, 0), iv(0, -tiny), iv(top, -top), iv(2, 1), iv(above(1), 1)}
	for _, bad := range []float64{
		math.NaN(), -math.NaN(), math.Float64frombits(0x7ff0000000000001), math.Float64frombits(math.MaxUint64),
		math.Inf(1), math.Inf(-1), math.Copysign(0, -1),
	} {
		l = append(l, single(bad), iv(bad, 1), iv(0, bad), iv(bad, 2), iv(-1, bad))
	}
	return l
}

// ends is intervals that have low and high as ends, or are next to them: those within, and those beyond.
func ends(low, high float64) (within, beyond []api.Iv) {
	within = []api.Iv{
		single(low), single(above(low)), single(below(high)), single(high), iv(low, above(low)), iv(below(high), high), iv(low, high), single(0.5),
	}
	beyond = []api.Iv{
		single(below(low)), single(above(high)), iv(below(low), low), iv(below(low), high), iv(high, above(high)), iv(low, above(high)),
		iv(below(low), above(high)), single(low - 1), single(high + 1), single(-top), single(top), iv(-top, top), iv(-top, low), iv(high, top),
	}
	return within, beyond
}

// arguments are those of Value; Pair takes the second of them, and Slope the last three.
type arguments [5]api.Iv

func numbers(rho, sigma, in, out, dot float64) arguments {
	return arguments{single(rho), single(sigma), single(in), single(out), single(dot)}
}

// plain is within all limits, and has no error.
func plain() arguments { return numbers(1, 1, 1, 1, 1) }

// with returns the arguments with another one in the place i.
func (x arguments) with(i int, a api.Iv) arguments {
	x[i] = a
	return x
}

func value(x arguments) (api.Iv, api.Errno) { return oren.Value(x[0], x[1], x[2], x[3], x[4]) }

func slope(x arguments) (api.Iv, api.Errno) { return oren.Slope(x[2], x[3], x[4]) }

func checkPair(t *testing.T, sigma, a, b api.Iv, err api.Errno) {
	t.Helper()
	if gotA, gotB, e := oren.Pair(sigma); !same(gotA, a) || !same(gotB, b) || e != err {
		t.Errorf("Pair(%v): %x, %x, %d; want %x, %x, %d", sigma, gotA, gotB, e, a, b, err)
	}
}

func checkSlope(t *testing.T, x arguments, want api.Iv, err api.Errno) {
	t.Helper()
	if got, e := slope(x); !same(got, want) || e != err {
		t.Errorf("Slope(%v): %x, %d; want %x, %d", x[2:], got, e, want, err)
	}
}

func checkValue(t *testing.T, x arguments, want api.Iv, err api.Errno) {
	t.Helper()
	if got, e := value(x); !same(got, want) || e != err {
		t.Errorf("Value(%v): %x, %d; want %x, %d", x, got, e, want, err)
	}
}

func TestExamplesP81(t *testing.T) {
	a, b, err := oren.Pair(single(0))
	if width, _ := ival.Width(a); !ival.Has(a, 1/math.Pi) || width > power(-50) || b != single(0) || err != api.OK {
		t.Errorf("Pair(0): %v, %v, %d", a, b, err)
	}
}

func TestExamplesP82(t *testing.T) {
	checkSlope(t, numbers(0, 0, 1, 1, 1), single(0), api.OK)
	checkSlope(t, numbers(0, 0, 0.5, 0.25, 0.625), single(1), api.OK)
	checkSlope(t, numbers(0, 0, 0.5, 0.5, -0.25), single(-0.5), api.OK)
	checkSlope(t, numbers(0, 0, 0, 0, 0.5), api.Iv{}, api.ErrZero)
}

func TestExamplesP83(t *testing.T) {
	checkValue(t, numbers(0, 1, 0.5, 0.5, 1), single(0), api.OK)
}

// The ends were worked out by the chapter's formulas with fractions, apart from this program.
func TestKnownEndsP81(t *testing.T) {
	for _, x := range []struct{ sigma, a, b api.Iv }{
		{single(0), iv(0x1.45f306dc9c882p-2, 0x1.45f306dc9c883p-2), single(0)},
		{single(1), iv(0x1.fa36b40b9c6a0p-3, 0x1.fa36b40b9c6a5p-3), iv(0x1.fa36b40b9c6a0p-3, 0x1.fa36b40b9c6a5p-3)},
		{single(0.5), iv(0x1.1cf24b989ab9dp-2, 0x1.1cf24b989ab9fp-2), iv(0x1.1cf24b989ab9dp-3, 0x1.1cf24b989ab9fp-3)},
		{single(0.3), iv(0x1.2c0b4ab004a17p-2, 0x1.2c0b4ab004a1ap-2), iv(0x1.680d8cd338c1bp-4, 0x1.680d8cd338c1fp-4)},
		{single(tiny), iv(0x1.45f306dc9c881p-2, 0x1.45f306dc9c883p-2), iv(0, tiny)},
		{single(below(1)), iv(0x1.fa36b40b9c6a0p-3, 0x1.fa36b40b9c6a5p-3), iv(0x1.fa36b40b9c69fp-3, 0x1.fa36b40b9c6a5p-3)},
		{single(power(-60)), iv(0x1.45f306dc9c881p-2, 0x1.45f306dc9c883p-2), iv(0x1.45f306dc9c881p-62, 0x1.45f306dc9c883p-62)},
		{iv(0, 1), iv(0x1.fa36b40b9c6a0p-3, 0x1.45f306dc9c883p-2), iv(0, 0x1.45f306dc9c883p-2)},
		{iv(0.25, 0.75), iv(0x1.0c15a7aedf644p-2, 0x1.3012650f15088p-2), iv(0x1.0c15a7aedf644p-4, 0x1.c81b97969f8ccp-3)},
		{iv(0.1, 0.11), iv(0x1.3bf281cd08781p-2, 0x1.3cd4c515d1327p-2), iv(0x1.f98402e1a7268p-6, 0x1.16cfb7accc92dp-5)},
	} {
		checkPair(t, x.sigma, x.a, x.b, api.OK)
	}
}

func TestKnownEndsP82(t *testing.T) {
	for _, x := range []struct{ in, out, dot, want api.Iv }{
		{single(0.3), single(0.7), single(0.9), iv(0x1.f8af8af8af8afp-1, 0x1.f8af8af8af8b1p-1)},
		{single(0.3), single(0.7), single(0.2), iv(-0x1.47ae147ae1470p-7, -0x1.47ae147ae1460p-7)},
		{single(0.3), single(0.7), single(-0.2), iv(-0x1.a3d70a3d70a3ep-2, -0x1.a3d70a3d70a3dp-2)},
		{single(0.5), single(1), single(below(1)), single(0x1.ffffffffffffep-2)},
		{single(1), single(tiny), single(tiny), single(0)},
		{single(tiny), single(tiny), single(tiny), iv(0, 1)},
		{single(tiny), single(tiny), single(0), iv(-tiny, 0)},
		{single(tiny), single(1), single(0), single(-tiny)},
		{single(power(-1022)), single(0), single(power(-1022)), single(1)},
		{single(0.1), single(0.3), single(0.03), iv(-power(-58), 0)}, // from below 0 to 0: nothing is divided
		{iv(0.1, 0.2), iv(0.15, 0.25), iv(0, 0.01), iv(-0x1.999999999999ap-5, -0x1.47ae147ae147ap-8)},
		{iv(0.1, 0.2), iv(0.3, 0.4), iv(-0.9, -0.5), iv(-0x1.f5c28f5c28f5dp-1, -0x1.0f5c28f5c28f5p-1)},
		{single(0.7), single(0.3), iv(0.2, 0.3), iv(-0x1.47ae147ae1470p-7, 0x1.0750750750753p-3)}, // from below 0 to above
		{iv(0.25, 0.5), iv(0.5, 0.75), iv(0.125, 0.375), iv(-0.25, 0.5)},
		{single(0.5), iv(0.25, 0.75), iv(0, 0.5), iv(-0.375, 0.75)},
		{single(1), single(1), iv(below(1), 1), iv(-power(-53), 0)},
		{single(1), iv(0.25, 0.5), iv(0.25, 0.5), iv(-0.25, 0.25)},
		{single(tiny), single(1), iv(-tiny, 2*tiny), iv(-2*tiny, tiny)},
		{single(0), single(0.5), iv(0.125, 0.25), iv(0.25, 0.5)},
	} {
		checkSlope(t, arguments{single(0), single(0), x.in, x.out, x.dot}, x.want, api.OK)
	}
}

// Each of these would be beyond -1 or 1 without the bounds, in each of the three cases.
func TestEachBoundP82(t *testing.T) {
	for _, x := range []struct{ in, out, dot, want api.Iv }{
		{single(1), single(1), single(-1), single(-1)},
		{single(1), single(0.5), iv(-1, -0.25), iv(-1, -0.75)},
		{iv(0, 1), iv(0, 1), iv(-1, 0), iv(-1, 0)},
		{single(0.5), single(0.5), single(1), single(1)},
		{single(0.5), single(0.5), iv(0.5, 1), iv(0.5, 1)},
		{single(0), single(power(-1023)), single(1), single(1)},
		{iv(0.25, 0.5), iv(0.5, 0.75), iv(0.25, 1), iv(-0.125, 1)},
		{iv(0, 1), iv(0.5, 1), iv(-1, 1), iv(-1, 1)},
		{iv(0.5, 1), iv(0.5, 1), iv(-1, 0.5), iv(-1, 0.5)},
	} {
		checkSlope(t, arguments{single(0), single(0), x.in, x.out, x.dot}, x.want, api.OK)
	}
}

func TestKnownEndsP83(t *testing.T) {
	for _, x := range []struct {
		given arguments
		want  api.Iv
	}{
		{numbers(1, 0, 0.5, 0.5, 1), iv(0x1.45f306dc9c882p-2, 0x1.45f306dc9c883p-2)},
		{numbers(1, 1, 0.5, 0.5, 1), iv(0x1.fa36b40b9c6a0p-2, 0x1.fa36b40b9c6a5p-2)}, // a slope that is bounded by 1
		{numbers(1, 1, 1, 1, 1), iv(0x1.fa36b40b9c6a0p-3, 0x1.fa36b40b9c6a5p-3)},
		{numbers(0.5, 0.5, 0.5, 0.25, 0.625), iv(0x1.ab6b7164e816bp-3, 0x1.ab6b7164e816fp-3)},
		{numbers(0.8, 0.3, 0.9, 0.2, 0.6), iv(0x1.11a3e5e835600p-2, 0x1.11a3e5e835605p-2)},
		{numbers(0.8, 0.3, 0.2, 0.9, -0.6), iv(0x1.6fbbeb4e83033p-3, 0x1.6fbbeb4e8303bp-3)},
		{numbers(0.3, 1, 0.7, 0.6, 0.42), iv(0x1.2fba6c06f772cp-4, 0x1.2fba6c06f7731p-4)},
		{numbers(0.7, 1, tiny, 0, tiny), iv(0x1.62597e0820b09p-2, 0x1.62597e0820b0dp-2)},
		{numbers(1, 0.9, 0.9, 0.8, 0.1), iv(0x1.c9b8d33f8321ap-4, 0x1.c9b8d33f8322ep-4)},
		{numbers(tiny, 0.5, 1, 1, 1), iv(0, tiny)},
		{numbers(1, tiny, 1, 1, -1), iv(0x1.45f306dc9c880p-2, 0x1.45f306dc9c883p-2)},
		{arguments{single(1), iv(0, 1), single(0.5), single(0.5), single(1)}, iv(0x1.fa36b40b9c6a0p-3, 0x1.45f306dc9c883p-1)},
		{arguments{iv(0, 1), iv(0, 1), iv(0.5, 1), iv(0.5, 1), iv(-1, 1)}, iv(0, 0x1.45f306dc9c883p-1)},
		{arguments{iv(0.25, 0.5), iv(0.5, 0.75), iv(0.25, 0.5), iv(0.5, 0.75), iv(-0.5, 0.5)}, iv(0x1.445a984ae768cp-6, 0x1.bd3a961e71c29p-3)},
		{arguments{iv(0.1, 0.2), iv(0.3, 0.4), iv(0.5, 0.6), iv(0.7, 0.8), iv(-0.2, 0.9)}, iv(0x1.5119ff0196673p-6, 0x1.3b79963569ceap-4)},
	} {
		checkValue(t, x.given, x.want, api.OK)
	}
}

// Each of these would be from below 0 without the bound.
func TestEachBoundP83(t *testing.T) {
	for _, x := range []struct {
		given arguments
		want  api.Iv
	}{
		{numbers(1, 1, 0, 0, -1), iv(0, 0x1.4p-53)},
		{numbers(1, 1, 1, 1, -1), iv(0, 0x1.4p-53)},
		{numbers(1, below(1), 0, 0, -1), iv(0, 0x1.8p-53)},
		{arguments{single(1), iv(0, 1), single(1), single(1), single(-1)}, iv(0, 0x1.45f306dc9c883p-2)},
		{arguments{iv(0.5, 1), iv(0.9, 1), single(1), single(1), single(-1)}, iv(0, 0x1.f18ab18e80aa8p-6)},
	} {
		checkValue(t, x.given, x.want, api.OK)
	}
}

// zeros is what has something above 0 divided by what contains 0, and overs, by what is so small that there is no number for the quotient. Value has these errors whatever the rest.
func zeros() []arguments {
	return []arguments{
		numbers(0, 0, 0, 0, 0.5), numbers(1, 1, 0, 0, tiny), numbers(1, 0, 0, 0, 1), numbers(0, 1, 0, 0, below(1)),
		{single(1), single(1), single(0), iv(0, 1), single(0.5)}, {single(1), single(1), iv(0, 1), single(0), single(tiny)},
		{single(1), single(1), iv(0, 1), iv(0, 1), single(1)}, {iv(0, 1), iv(0, 1), iv(0, 1), iv(0, 1), iv(-1, tiny)},
		{single(1), single(1), single(0), iv(0, 1), iv(-0.5, 0.5)}, {single(0.5), single(0.5), single(0), single(0), iv(0, tiny)},
	}
}

func overs() []arguments {
	return []arguments{
		numbers(0, 0, 0, power(-1024), 1), numbers(1, 1, tiny, tiny, 1), numbers(1, 0, tiny, 0, power(-50)), numbers(0, 1, tiny, power(-1030), 0.5),
		{single(1), single(1), iv(tiny, 1), single(0), single(0.5)}, {single(1), single(1), iv(0, 1), iv(tiny, 1), iv(-0.5, 0.5)},
		{iv(0, 1), iv(0, 1), iv(power(-1024), 1), iv(0, 1), iv(-1, 1)},
	}
}

func TestErrorsOfTheFormulaP82(t *testing.T) {
	for _, x := range zeros() {
		checkSlope(t, x, api.Iv{}, api.ErrZero)
	}
	for _, x := range overs() {
		checkSlope(t, x, api.Iv{}, api.ErrOver)
	}
}

// What comes next to those errors, but has none: nothing is divided, or the quotient is just below the greatest number.
func TestNoErrorOfTheFormulaP82(t *testing.T) {
	for _, x := range []struct {
		given arguments
		want  api.Iv
	}{
		{numbers(0, 0, 0, 0, 0), single(0)},
		{numbers(0, 0, 0, 0, -tiny), single(-tiny)},
		{numbers(0, 0, 0, 0, -1), single(-1)},
		{arguments{single(0), single(0), single(0), single(0), iv(-1, 0)}, iv(-1, 0)},
		{arguments{single(0), single(0), iv(0, 1), iv(0, 1), single(0)}, iv(-1, 0)},
		{numbers(0, 0, 0, tiny, tiny), single(1)},
		{numbers(0, 0, 0, power(-1024)+tiny, 1), single(1)},
		{numbers(0, 0, power(-1024), 0, below(1)), single(1)},
		{arguments{single(0), single(0), single(0), iv(tiny, 1), iv(-1, tiny)}, iv(-1, 1)},
		{arguments{single(0), single(0), iv(tiny, 1), single(0), single(power(-51))}, iv(power(-51), 1)},
	} {
		checkSlope(t, x.given, x.want, api.OK)
	}
}

func TestErrorsOfTheFormulaP83(t *testing.T) {
	for _, x := range zeros() {
		checkValue(t, x, api.Iv{}, api.ErrZero)
	}
	for _, x := range overs() {
		checkValue(t, x, api.Iv{}, api.ErrOver)
	}
}

func TestLimitsP81(t *testing.T) {
	within, beyond := ends(0, 1)
	for _, sigma := range within {
		if _, _, err := oren.Pair(sigma); err != api.OK {
			t.Errorf("Pair(%v): %d", sigma, err)
		}
	}
	for _, sigma := range beyond {
		checkPair(t, sigma, api.Iv{}, api.Iv{}, api.ErrArg)
	}
}

// limitsOf returns what is within, and beyond, the limits of the argument in the place i: 4 is that of dot.
func limitsOf(i int) (within, beyond []api.Iv) {
	if i == 4 {
		return ends(-1, 1)
	}
	return ends(0, 1)
}

func TestLimitsP82(t *testing.T) {
	for i := 2; i < 5; i++ {
		within, beyond := limitsOf(i)
		for _, a := range within {
			if _, err := slope(plain().with(i, a)); err != api.OK {
				t.Errorf("Slope with %v in the place %d: %d", a, i, err)
			}
		}
		for _, bad := range beyond {
			checkSlope(t, plain().with(i, bad), api.Iv{}, api.ErrArg)
			for _, x := range append(zeros(), overs()...) { // ahead of the formula's errors
				checkSlope(t, x.with(i, bad), api.Iv{}, api.ErrArg)
			}
		}
	}
}

func TestLimitsP83(t *testing.T) {
	for i := range 5 {
		within, beyond := limitsOf(i)
		for _, a := range within {
			if _, err := value(plain().with(i, a)); err != api.OK {
				t.Errorf("Value with %v in the place %d: %d", a, i, err)
			}
		}
		for _, bad := range beyond {
			checkValue(t, plain().with(i, bad), api.Iv{}, api.ErrArg)
			for _, x := range append(zeros(), overs()...) {
				checkValue(t, x.with(i, bad), api.Iv{}, api.ErrArg)
			}
		}
	}
}

func TestWrongArgumentsP81(t *testing.T) {
	for _, bad := range wrongOnes() {
		checkPair(t, bad, api.Iv{}, api.Iv{}, api.ErrIv)
	}
}

// others is arguments within the limits, and beyond: one that is not right comes ahead of all that are beyond, and of the formula's errors.
func others() []arguments {
	l := append(zeros(), overs()...)
	return append(l, plain(), numbers(0, 0, 0, 0, 0), numbers(2, 2, 2, 2, 2), numbers(-1, -1, -1, -1, -2), numbers(top, top, top, top, top))
}

func TestWrongArgumentsP82(t *testing.T) {
	for _, bad := range wrongOnes() {
		for _, x := range others() {
			for i := 2; i < 5; i++ {
				checkSlope(t, x.with(i, bad), api.Iv{}, api.ErrIv)
			}
		}
	}
}

func TestWrongArgumentsP83(t *testing.T) {
	for _, bad := range wrongOnes() {
		for _, x := range others() {
			for i := range 5 {
				checkValue(t, x.with(i, bad), api.Iv{}, api.ErrIv)
			}
		}
	}
}
