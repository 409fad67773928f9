package lambert_test

import (
	"math"
	"testing"

	"burnish/api"
	"burnish/ival"
	"burnish/lambert"
)

const (
	top  = math.MaxFloat64
	tiny = math.SmallestNonzeroFloat64
)

func power(e int) float64 { return math.Ldexp(1, e) }

func iv(lo, hi float64) api.Iv { return api.Iv{Lo: lo, Hi: hi} }

func single(x float64) api.Iv { return iv(x, x) }

// same reports whether two intervals have the same bits, so that -0 is not 0.
func same(a, b api.Iv) bool {
	return math.Float64bits(a.Lo) == math.Float64bits(b.Lo) && math.Float64bits(a.Hi) == math.Float64bits(b.Hi)
}

func above(x float64) float64 { return math.Nextafter(x, top) }

func below(x float64) float64 { return math.Nextafter(x, -top) }

// wrongOnes is what is not a right interval; most of them would be within the limits if they were one.
func wrongOnes() []api.Iv {
	l := []api.Iv{iv(1, 0), iv(0.5, 0.25), iv(tiny, 0), iv(top, -top), iv(2, 1), iv(above(1), 1)}
	for _, bad := range []float64{
		math.NaN(), -math.NaN(), math.Float64frombits(0x7ff0000000000001), math.Float64frombits(math.MaxUint64),
		math.Inf(1), math.Inf(-1), math.Copysign(0, -1),
	} {
		l = append(l, single(bad), iv(bad, 1), iv(0, bad), iv(bad, 2), iv(-1, bad))
	}
	return l
}

// beyond is right intervals that are not within 0 and 1, by a little and by far.
func beyond() []api.Iv {
	return []api.Iv{
		single(-tiny), single(above(1)), iv(-tiny, 0), iv(-tiny, 0.5), iv(-tiny, 1), iv(0, above(1)), iv(0.5, above(1)), iv(1, above(1)),
		iv(-tiny, above(1)), single(-1), single(2), single(-top), single(top), iv(-top, top), iv(-top, 0), iv(1, top), iv(-1, 1), iv(0, 2),
	}
}

// within is intervals that have 0 or 1 as an end, or are next to them.
func within() []api.Iv {
	return []api.Iv{
		single(0), single(tiny), single(0.5), single(below(1)), single(1), iv(0, tiny), iv(tiny, 1), iv(0, below(1)), iv(below(1), 1), iv(0, 1),
	}
}

func checkValue(t *testing.T, rho, want api.Iv, err api.Errno) {
	t.Helper()
	if got, e := lambert.Value(rho); !same(got, want) || e != err {
		t.Errorf("Value(%v): %x, %d; want %x, %d", rho, got, e, want, err)
	}
}

func checkDensity(t *testing.T, cos, want api.Iv, err api.Errno) {
	t.Helper()
	if got, e := lambert.Density(cos); !same(got, want) || e != err {
		t.Errorf("Density(%v): %x, %d; want %x, %d", cos, got, e, want, err)
	}
}

func checkCap(t *testing.T, rho, cos, want api.Iv, err api.Errno) {
	t.Helper()
	if got, e := lambert.Cap(rho, cos); !same(got, want) || e != err {
		t.Errorf("Cap(%v, %v): %x, %d; want %x, %d", rho, cos, got, e, want, err)
	}
}

func TestExamplesP71(t *testing.T) {
	got, err := lambert.Value(single(1))
	if got.Lo < 0.318309886 || got.Hi > 0.318309887 || !ival.Has(got, 1/math.Pi) || err != api.OK {
		t.Errorf("Value(1): %v, %d", got, err)
	}
	if width, err := ival.Width(got); width > power(-50) || err != api.OK {
		t.Errorf("Value(1) is %g wide, %d", width, err)
	}
	checkDensity(t, single(0), single(0), api.OK)
}

func TestExamplesP72(t *testing.T) {
	checkCap(t, single(0.5), single(0), single(0.5), api.OK)
	checkCap(t, single(0.5), single(0.5), single(0.375), api.OK)
}

// The ends were worked out by the chapter's formula with fractions, apart from this program.
func TestKnownEndsP71(t *testing.T) {
	for _, x := range []struct{ given, want api.Iv }{
		{single(1), iv(0x1.45f306dc9c882p-2, 0x1.45f306dc9c883p-2)},
		{single(0), single(0)},
		{iv(0, 1), iv(0, 0x1.45f306dc9c883p-2)},
		{single(0.5), iv(0x1.45f306dc9c882p-3, 0x1.45f306dc9c883p-3)},
		{single(0.3), iv(0x1.8723a1d588a35p-4, 0x1.8723a1d588a37p-4)},
		{iv(0.1, 0.7), iv(0x1.04c26be3b06cep-5, 0x1.c8543cce74beap-3)},
		{iv(0.25, 0.75), iv(0x1.45f306dc9c882p-4, 0x1.e8ec8a4aeacc5p-3)},
		{single(below(1)), iv(0x1.45f306dc9c881p-2, 0x1.45f306dc9c883p-2)},
		{single(power(-1022)), iv(0x0.517cc1b727220p-1022, 0x0.517cc1b727221p-1022)},
		{single(tiny), iv(0, tiny)},
		{iv(3*tiny, 4*tiny), iv(0, 2*tiny)},
	} {
		checkValue(t, x.given, x.want, api.OK)
		checkDensity(t, x.given, x.want, api.OK)
	}
}

func TestKnownEndsP72(t *testing.T) {
	for _, x := range []struct{ rho, cos, want api.Iv }{
		{single(0.3), single(0.7), iv(0x1.395810624dd2ep-3, 0x1.395810624dd31p-3)},
		{single(1), single(0.1), iv(0x1.fae147ae147aep-1, 0x1.fae147ae147afp-1)},
		{iv(0.1, 0.9), iv(0.2, 0.8), iv(0x1.26e978d4fdf39p-5, 0x1.ba5e353f7cedap-1)},
		{single(1), single(tiny), iv(0x1.fffffffffffffp-1, 1)},
		{single(1), single(below(1)), iv(0x1p-53, 0x1p-52)},
		{single(tiny), single(0.5), iv(0, tiny)},
		{iv(0, 1), iv(0, 1), iv(0, 1)},
		{iv(0.5, 1), iv(0, 0.5), iv(0.375, 1)},
		{single(0.6), single(power(-27)), iv(0x1.3333333333332p-1, 0x1.3333333333333p-1)},
		{iv(below(1), 1), iv(0.3, 0.6), iv(0x1.47ae147ae147ap-1, 0x1.d1eb851eb851fp-1)},
	} {
		checkCap(t, x.rho, x.cos, x.want, api.OK)
	}
}

func TestLimitsP71(t *testing.T) {
	for _, a := range within() {
		if _, err := lambert.Value(a); err != api.OK {
			t.Errorf("Value(%v): %d", a, err)
		}
		if _, err := lambert.Density(a); err != api.OK {
			t.Errorf("Density(%v): %d", a, err)
		}
	}
	for _, bad := range beyond() {
		checkValue(t, bad, api.Iv{}, api.ErrArg)
		checkDensity(t, bad, api.Iv{}, api.ErrArg)
	}
}

func TestLimitsP72(t *testing.T) {
	for _, a := range within() {
		for _, b := range within() {
			if _, err := lambert.Cap(a, b); err != api.OK {
				t.Errorf("Cap(%v, %v): %d", a, b, err)
			}
		}
	}
	for _, bad := range beyond() {
		for _, other := range append(beyond(), within()...) {
			checkCap(t, bad, other, api.Iv{}, api.ErrArg)
			checkCap(t, other, bad, api.Iv{}, api.ErrArg)
		}
	}
}

func TestWrongArgumentsP71(t *testing.T) {
	for _, bad := range wrongOnes() {
		checkValue(t, bad, api.Iv{}, api.ErrIv)
		checkDensity(t, bad, api.Iv{}, api.ErrIv)
	}
}

// An argument that is not right comes ahead of one that is beyond the limits, wherever it stands.
func TestWrongArgumentsP72(t *testing.T) {
	others := append(append(beyond(), within()...), wrongOnes()...)
	for _, bad := range wrongOnes() {
		for _, other := range others {
			checkCap(t, bad, other, api.Iv{}, api.ErrIv)
			checkCap(t, other, bad, api.Iv{}, api.ErrIv)
		}
	}
}
