package fresnel_test

import (
	"math"
	"testing"

	"burnish/api"
	"burnish/fresnel"
	"burnish/ival"
)

const (
	top  = math.MaxFloat64
	tiny = math.SmallestNonzeroFloat64
)

func power(e int) float64 { return math.Ldexp(1, e) }

func iv(lo, hi float64) api.Iv { return api.Iv{Lo: lo, Hi: hi} }

func single(x float64) api.Iv { return iv(x, x) }

// same reports whether two intervals have the same bits, so that -0 is not 0.
func same(a, b api.Iv) bool {
	return math.Float64bits(a.Lo) == math.Float64bits(b.Lo) && math.Float64bits(a.Hi) == math.Float64bits(b.Hi)
}

func above(x float64) float64 { return math.Nextafter(x, top) }

func below(x float64) float64 { return math.Nextafter(x, -top) }

// wrongOnes is what is not a right interval; most of them would be within all limits if they were one.
func wrongOnes() []api.Iv {
	l := []api.Iv{iv(1, 0), iv(2, 1), iv(top, -top), iv(above(1), 1)}
	for _, bad := range []float64{
		math.NaN(), -math.NaN(), math.Float64frombits(0x7ff0000000000001), math.Float64frombits(math.MaxUint64),
		math.Inf(1), math.Inf(-1), math.Copysign(0, -1),
	} {
		l = append(l, single(bad), iv(bad, 1), iv(1, bad))
	}
	return l
}

func checkDielectric(t *testing.T, cos, n, want api.Iv, err api.Errno) {
	t.Helper()
	if got, e := fresnel.Dielectric(cos, n); !same(got, want) || e != err {
		t.Errorf("Dielectric(%v, %v): %x, %d; want %x, %d", cos, n, got, e, want, err)
	}
}

func checkConductor(t *testing.T, cos, eta, k, want api.Iv, err api.Errno) {
	t.Helper()
	if got, e := fresnel.Conductor(cos, eta, k); !same(got, want) || e != err {
		t.Errorf("Conductor(%v, %v, %v): %x, %d; want %x, %d", cos, eta, k, got, e, want, err)
	}
}

func TestExamplesP61(t *testing.T) {
	for _, x := range []struct{ cos, n, want float64 }{{1, 1.5, 0.04}, {0, 1.5, 1}} {
		got, err := fresnel.Dielectric(single(x.cos), single(x.n))
		if !ival.Has(got, x.want) || got.Hi-got.Lo > power(-48) || err != api.OK {
			t.Errorf("Dielectric(%g, %g): %v, %d", x.cos, x.n, got, err)
		}
	}
	checkDielectric(t, single(1.5), single(1.5), api.Iv{}, api.ErrArg)
}

func TestExamplesP62(t *testing.T) {
	if got, err := fresnel.Conductor(single(1), single(1), single(1)); !ival.Has(got, 0.2) || got.Hi-got.Lo > power(-48) || err != api.OK {
		t.Errorf("Conductor(1, 1, 1): %v, %d", got, err)
	}
}

// The ends were worked out by the chapter's formula with fractions, apart from this program.
func TestKnownEndsP61(t *testing.T) {
	for _, x := range []struct{ cos, n, want api.Iv }{
		{single(1), single(1.5), iv(0x1.47ae147ae1479p-5, 0x1.47ae147ae147cp-5)},
		{single(0), single(1.5), iv(0x1.ffffffffffffcp-1, 1)},
		{single(0.5), single(1.5), iv(0x1.6d4f0beb926cap-4, 0x1.6d4f0beb926d5p-4)},
		{single(0.3), single(2.4), iv(0x1.2f5b37b2f3947p-2, 0x1.2f5b37b2f3958p-2)},
		{single(0), single(1.0625), iv(0x1.ffffffffffffcp-1, 1)},
		{single(1), single(4), iv(0x1.70a3d70a3d709p-2, 0x1.70a3d70a3d70dp-2)},
		{single(tiny), single(1.0625), iv(0x1.ffffffffffff3p-1, 1)},
		{iv(0, 1), single(1.5), iv(0x1.242cf9ebf9494p-10, 1)},
		{iv(0, 1), iv(1.0625, 4), iv(0, 1)},
		{iv(0.5, 0.75), iv(1.25, 1.5), iv(0x1.55ca152a3f1ecp-9, 0x1.df1db557ded18p-3)},
		{iv(0.875, 1), single(1.0625), iv(0, 0x1.89004f060c25bp-7)},
		{iv(0.2, 0.3), iv(1.7, 1.8), iv(0x1.924a38844fcd2p-3, 0x1.d490bd8272e9cp-2)},
	} {
		checkDielectric(t, x.cos, x.n, x.want, api.OK)
	}
}

func TestKnownEndsP62(t *testing.T) {
	for _, x := range []struct{ cos, eta, k, want api.Iv }{
		{single(1), single(1), single(1), iv(0x1.9999999999999p-3, 0x1.999999999999ap-3)},
		{single(0), single(1), single(1), iv(0x1.ffffffffffffep-1, 1)},
		{single(0.5), single(0.2), single(3.9), iv(0x1.e44ab20f660a6p-1, 0x1.e44ab20f660e1p-1)},
		{single(0.1), single(16), single(0.0625), iv(0x1.07690ad2d6316p-1, 0x1.07690ad2d6320p-1)},
		{single(0.7), single(0.0625), single(16), iv(0x1.ff78862ee2045p-1, 0x1.ff78862ee20c6p-1)},
		{single(tiny), single(2), single(1), iv(0x1.ffffffffffff3p-1, 1)},
		{iv(0, 0.5), iv(0.0625, 16), iv(0.0625, 16), iv(0, 1)},
		{iv(0.5, 1), iv(0.25, 0.5), iv(2, 3), iv(0x1.355a793679128p-6, 1)},
		{iv(0, below(1)), single(1), single(1), iv(0, 1)},
		{iv(power(-500), 1), single(1), single(1), iv(0, 1)},
		{iv(0.7, 0.71), iv(1.5, 1.6), iv(0.3, 0.4), iv(0x1.765e12a646e1fp-6, 0x1.436833ee1c81fp-3)},
	} {
		checkConductor(t, x.cos, x.eta, x.k, x.want, api.OK)
	}
}

// What is divided by may be 0 where the cosine is from 0, or from what has no square above 0, to 1; never for less.
func TestZeroP62(t *testing.T) {
	for _, x := range []struct{ cos, eta, k api.Iv }{
		{iv(0, 1), single(1), single(1)}, {iv(0, 1), single(0.0625), single(16)}, {iv(0, 1), iv(0.0625, 16), iv(0.0625, 16)},
		{iv(tiny, 1), single(1), single(1)}, {iv(power(-600), 1), single(16), single(16)},
	} {
		checkConductor(t, x.cos, x.eta, x.k, api.Iv{}, api.ErrZero)
	}
}

// A bit less narrow, and what is divided by is above 0, but so small that there is no number for the quotient.
func TestOverP62(t *testing.T) {
	for _, x := range []struct{ cos, eta, k api.Iv }{
		{iv(power(-530), 1), single(1), single(1)}, {iv(power(-520), 1), single(0.0625), single(16)}, {iv(power(-515), 1), iv(0.0625, 16), iv(0.0625, 16)},
	} {
		checkConductor(t, x.cos, x.eta, x.k, api.Iv{}, api.ErrOver)
	}
}

// ends is intervals that have low and high as ends, or are next to them: those within, and those beyond.
func ends(low, high float64) (within, beyond []api.Iv) {
	within = []api.Iv{single(low), single(above(low)), single(below(high)), single(high), iv(low, above(low)), iv(below(high), high)}
	beyond = []api.Iv{
		single(below(low)), single(above(high)), iv(below(low), low), iv(below(low), high), iv(high, above(high)), iv(low, above(high)),
		iv(below(low), above(high)), single(-low - 1), single(high + 1), single(-top), single(top), iv(-top, top), iv(-top, low), iv(high, top),
	}
	return within, beyond
}

func TestLimitsP61(t *testing.T) {
	cosines, noCosines := ends(0, 1)
	indices, noIndices := ends(1.0625, 4)
	for _, cos := range cosines {
		for _, n := range indices {
			if _, err := fresnel.Dielectric(cos, n); err != api.OK {
				t.Errorf("Dielectric(%v, %v): %d", cos, n, err)
			}
		}
		for _, n := range noIndices {
			checkDielectric(t, cos, n, api.Iv{}, api.ErrArg)
		}
	}
	for _, cos := range noCosines {
		for _, n := range append(noIndices, indices...) {
			checkDielectric(t, cos, n, api.Iv{}, api.ErrArg)
		}
	}
	checkDielectric(t, single(1), single(1), api.Iv{}, api.ErrArg)
	checkDielectric(t, iv(0, 1), single(0), api.Iv{}, api.ErrArg)
}

func TestLimitsP62(t *testing.T) {
	cosines, noCosines := ends(0, 1)
	metals, noMetals := ends(0.0625, 16)
	for _, cos := range cosines {
		for _, eta := range metals {
			for _, k := range metals {
				if _, err := fresnel.Conductor(cos, eta, k); err != api.OK {
					t.Errorf("Conductor(%v, %v, %v): %d", cos, eta, k, err)
				}
			}
		}
		for _, bad := range noMetals {
			for _, other := range append(noMetals, metals...) {
				checkConductor(t, cos, bad, other, api.Iv{}, api.ErrArg)
				checkConductor(t, cos, other, bad, api.Iv{}, api.ErrArg)
			}
		}
	}
	for _, cos := range noCosines {
		for _, metal := range append(noMetals, metals...) {
			checkConductor(t, cos, metal, single(1), api.Iv{}, api.ErrArg)
			checkConductor(t, cos, single(1), metal, api.Iv{}, api.ErrArg)
		}
	}
	checkConductor(t, iv(0, 1), single(17), single(1), api.Iv{}, api.ErrArg) // ahead of ErrZero
}

// others is intervals within the limits, and beyond: an argument that is not right comes ahead of all that are beyond theirs.
func others() []api.Iv {
	return []api.Iv{single(1), iv(0, 1), single(2), single(-1), single(100), iv(1, 0)}
}

func TestWrongArgumentsP61(t *testing.T) {
	for _, bad := range wrongOnes() {
		for _, other := range others() {
			checkDielectric(t, bad, other, api.Iv{}, api.ErrIv)
			checkDielectric(t, other, bad, api.Iv{}, api.ErrIv)
		}
	}
}

func TestWrongArgumentsP62(t *testing.T) {
	for _, bad := range wrongOnes() {
		for _, one := range others() {
			for _, other := range others() {
				checkConductor(t, bad, one, other, api.Iv{}, api.ErrIv)
				checkConductor(t, one, bad, other, api.Iv{}, api.ErrIv)
				checkConductor(t, one, other, bad, api.Iv{}, api.ErrIv)
			}
		}
	}
}
