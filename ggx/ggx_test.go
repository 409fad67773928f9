package ggx_test

import (
	"math"
	"testing"

	"burnish/api"
	"burnish/ggx"
)

const (
	top  = math.MaxFloat64
	tiny = math.SmallestNonzeroFloat64

	minAlpha = 0.03125
)

func power(e int) float64 { return math.Ldexp(1, e) }

func iv(lo, hi float64) api.Iv { return api.Iv{Lo: lo, Hi: hi} }

func single(x float64) api.Iv { return iv(x, x) }

// same reports whether two intervals have the same bits, so that -0 is not 0.
func same(a, b api.Iv) bool {
	return math.Float64bits(a.Lo) == math.Float64bits(b.Lo) && math.Float64bits(a.Hi) == math.Float64bits(b.Hi)
}

func above(x float64) float64 { return math.Nextafter(x, top) }

func below(x float64) float64 { return math.Nextafter(x, -top) }

// wrongOnes is what is not a right interval; most of them would be within the limits of a cosine, or of alpha, if they were one.
func wrongOnes() []api.Iv {
	l := []api.Iv{iv(1, 0), iv(1, 0.5), iv(0.5, below(0.5)), iv(tiny, 0), iv(0, -tiny), iv(top, -top), iv(2, 1), iv(above(1), 1)}
	for _, bad := range []float64{
		math.NaN(), -math.NaN(), math.Float64frombits(0x7ff0000000000001), math.Float64frombits(math.MaxUint64),
		math.Inf(1), math.Inf(-1), math.Copysign(0, -1),
	} {
		l = append(l, single(bad), iv(bad, 1), iv(0, bad), iv(0.5, bad), iv(bad, 2), iv(-1, bad))
	}
	return l
}

// ends is intervals that have low and high as ends, or are next to them: those within, and those beyond.
func ends(low, high float64) (within, beyond []api.Iv) {
	within = []api.Iv{
		single(low), single(above(low)), single(below(high)), single(high), iv(low, above(low)), iv(below(high), high), iv(low, high), single(0.5),
	}
	beyond = []api.Iv{
		single(below(low)), single(above(high)), iv(below(low), low), iv(below(low), high), iv(high, above(high)), iv(low, above(high)),
		iv(below(low), above(high)), single(low - 1), single(high + 1), single(-top), single(top), iv(-top, top), iv(-top, low), iv(high, top),
	}
	return within, beyond
}

func cosinesAtEnds() (within, beyond []api.Iv) { return ends(0, 1) }

func alphasAtEnds() (within, beyond []api.Iv) {
	within, beyond = ends(minAlpha, 1)
	return within, append(beyond, single(0), single(0.03), single(tiny), iv(0, 1), single(1.25))
}

// function is one of the package's, as one of a cosine and alpha.
type function struct {
	name string
	of   func(cos, alpha api.Iv) (api.Iv, api.Errno)
}

func distribution() function { return function{"D", ggx.D} }

func hidden() function { return function{"Lambda", ggx.Lambda} }

func visible() function { return function{"G1", ggx.G1} }

func facing() function { return function{"Facing", ggx.Facing} }

// first and second are G2 with another cosine in the other place.
func first(other api.Iv) function {
	return function{"G2 first", func(cos, alpha api.Iv) (api.Iv, api.Errno) { return ggx.G2(cos, other, alpha) }}
}

func second(other api.Iv) function {
	return function{"G2 second", func(cos, alpha api.Iv) (api.Iv, api.Errno) { return ggx.G2(other, cos, alpha) }}
}

// divided is the functions that divide by the square of a cosine, and functions is all of them.
func divided() []function {
	return []function{hidden(), visible(), first(single(0.5)), second(single(0.5))}
}

func functions() []function { return append(divided(), distribution(), facing()) }

func (f function) check(t *testing.T, cos, alpha, want api.Iv, err api.Errno) {
	t.Helper()
	if got, e := f.of(cos, alpha); !same(got, want) || e != err {
		t.Errorf("%s(%v, %v): %x, %d; want %x, %d", f.name, cos, alpha, got, e, want, err)
	}
}

func checkG2(t *testing.T, in, out, alpha, want api.Iv, err api.Errno) {
	t.Helper()
	if got, e := ggx.G2(in, out, alpha); !same(got, want) || e != err {
		t.Errorf("G2(%v, %v, %v): %x, %d; want %x, %d", in, out, alpha, got, e, want, err)
	}
}

func TestExamplesP91(t *testing.T) {
	distribution().check(t, single(1), single(1), iv(0x1.45f306dc9c882p-2, 0x1.45f306dc9c883p-2), api.OK) // 1 / pi
	distribution().check(t, single(1), single(0.5), iv(0x1.45f306dc9c882p0, 0x1.45f306dc9c883p0), api.OK) // 4 / pi
	hidden().check(t, single(1), single(0.5), single(0), api.OK)
	visible().check(t, single(1), single(0.5), single(1), api.OK)
	hidden().check(t, single(0), single(1), api.Iv{}, api.ErrZero)
	facing().check(t, single(0), single(0.5), single(1), api.OK)
	facing().check(t, single(1), single(0.5), single(0), api.OK)
	facing().check(t, single(0.5), single(1), single(0.75), api.OK)
}

// known is what a function comes to.
type known struct{ cos, alpha, want api.Iv }

func checkKnown(t *testing.T, f function, table []known) {
	t.Helper()
	for _, x := range table {
		f.check(t, x.cos, x.alpha, x.want, api.OK)
	}
}

// All known ends were worked out by the chapter's formulas with fractions, apart from this program.
func TestKnownEndsOfDP91(t *testing.T) {
	checkKnown(t, distribution(), []known{
		{single(0.5), single(0.5), iv(0x1.edbee78dcd4d6p-4, 0x1.edbee78dcd4dap-4)},
		{single(0.3), single(0.7), iv(0x1.5ee76f2517ed6p-3, 0x1.5ee76f2517edcp-3)},
		{single(0.7), single(0.3), iv(0x1.7e2ff4caf5a5ep-4, 0x1.7e2ff4caf5a68p-4)},
		{single(0.9), single(0.1), iv(0x1.4c3b537c751b2p-4, 0x1.4c3b537c751cap-4)},
		{single(0.1), single(0.9), iv(0x1.09066c566a609p-2, 0x1.09066c566a60dp-2)},
		{single(1), single(minAlpha), iv(0x1.45f306dc9c882p+8, 0x1.45f306dc9c883p+8)},
		{single(below(1)), single(minAlpha), iv(0x1.45f306dc9be50p+8, 0x1.45f306dc9c883p+8)},
		{single(0.01), single(minAlpha), iv(0x1.4603b39cbd24dp-12, 0x1.4603b39cbd252p-12)},
		{single(0.6), single(1), iv(0x1.45f306dc9c882p-2, 0x1.45f306dc9c883p-2)},
		{single(0), single(0.3), iv(0x1.d55df566a3f72p-6, 0x1.d55df566a3f75p-6)},
		{single(tiny), single(0.6), iv(0x1.d55df566a3f72p-4, 0x1.d55df566a3f77p-4)},
		{single(power(-500)), single(0.2), iv(0x1.a1371305e714ap-7, 0x1.a1371305e714fp-7)},
		{iv(0.25, 0.5), iv(0.5, 0.75), iv(0x1.58888c6764390p-4, 0x1.15bb623fc37bbp-2)},
		{iv(0.1, 0.11), iv(0.2, 0.21), iv(0x1.a94eaafed4fbdp-7, 0x1.d6dae5003add3p-7)},
		{iv(0.5, 1), single(0.4), iv(0x1.4e40e0ee0b9ecp-4, 0x1.fd4bbab8b4958p+0)},
		{single(0.8), iv(minAlpha, 1), iv(0x1.45f306dc9c882p-12, 0x1.394a976ae90c8p+1)},
		{iv(0, 0.5), iv(0.25, 0.5), iv(0x1.45f306dc9c882p-6, 0x1.16070f57a1c60p-3)},
		{iv(0, 1), iv(minAlpha, 1), iv(0x1.45f306dc9c882p-12, 0x1.45f306dc9c883p+18)},
	})
}

func TestKnownEndsOfLambdaP91(t *testing.T) {
	checkKnown(t, hidden(), []known{
		{single(1), single(minAlpha), single(0)},
		{single(1), single(1), single(0)},
		{single(0.5), single(0.5), iv(0x1.4a9fea74be3a4p-3, 0x1.4a9fea74be3a8p-3)},
		{single(0.3), single(0.7), iv(0x1.70af2e192a4a2p-1, 0x1.70af2e192a4a8p-1)},
		{single(0.7), single(0.3), iv(0x1.771953a243fa0p-6, 0x1.771953a243fc0p-6)},
		{single(0.9), single(0.1), iv(0x1.3345d338c0800p-11, 0x1.3345d338c0c00p-11)},
		{single(0.1), single(0.9), iv(0x1.00566ba367f61p+2, 0x1.00566ba367f64p+2)},
		{single(below(1)), single(minAlpha), iv(0, power(-53))},
		{single(0.01), single(minAlpha), iv(0x1.23f63f46f9441p+0, 0x1.23f63f46f9443p+0)},
		{single(0.6), single(1), iv(0x1.5555555555554p-2, 0x1.5555555555558p-2)},
		{single(power(-30)), single(0.6), iv(0x1.3333332b33332p+28, 0x1.3333332b33334p+28)},
		{single(power(-500)), single(0.2), iv(0x1.9999999999998p+496, 0x1.999999999999bp+496)},
		{iv(0.25, 0.5), iv(0.5, 0.75), iv(0x1.4a9fea74be3a4p-3, 0x1.0938fb37bc9c1p+0)},
		{iv(0.1, 0.11), iv(0.2, 0.21), iv(0x1.10bc981ee3d2ep-1, 0x1.51024af7df7eep-1)},
		{iv(0.001, 1), iv(minAlpha, 1), iv(0, 0x1.f380000000002p+8)},
		{iv(0.5, 1), single(0.4), iv(0, 0x1.bb7fe15b24e40p-4)},
		{single(0.8), iv(minAlpha, 1), iv(0x1.1ff5e0b62f000p-13, 0x1.0000000000000p-3)},
	})
}

func TestKnownEndsOfG1P91(t *testing.T) {
	checkKnown(t, visible(), []known{
		{single(1), single(minAlpha), single(1)},
		{single(1), single(1), single(1)},
		{single(0.5), single(0.5), iv(0x1.b8d5389ba84dep-1, 0x1.b8d5389ba84e0p-1)},
		{single(0.3), single(0.7), iv(0x1.29a8d174234a8p-1, 0x1.29a8d174234abp-1)},
		{single(0.7), single(0.3), iv(0x1.f48a5f2655b18p-1, 0x1.f48a5f2655b1bp-1)},
		{single(0.9), single(0.1), iv(0x1.ffb33a0ffbc09p-1, 0x1.ffb33a0ffbc0cp-1)},
		{single(0.1), single(0.9), iv(0x1.992b192f7b224p-3, 0x1.992b192f7b229p-3)},
		{single(below(1)), single(minAlpha), iv(0x1.ffffffffffffep-1, 1)},
		{single(0.01), single(minAlpha), iv(0x1.de65f1dc5e8cep-2, 0x1.de65f1dc5e8d3p-2)},
		{single(0.6), single(1), iv(0x1.7ffffffffffffp-1, 0x1.8000000000001p-1)},
		{single(power(-30)), single(0.6), iv(0x1.aaaaaa9f8e38dp-29, 0x1.aaaaaa9f8e390p-29)},
		{single(power(-500)), single(0.2), iv(0x1.3fffffffffffep-497, 0x1.4000000000002p-497)},
		{iv(0.25, 0.5), iv(0.5, 0.75), iv(0x1.f6f0cb510aa31p-2, 0x1.b8d5389ba84e0p-1)},
		{iv(0.1, 0.11), iv(0.2, 0.21), iv(0x1.34c3c3b57f6acp-1, 0x1.4e0daed73d232p-1)},
		{iv(0.001, 1), iv(minAlpha, 1), iv(0x1.05e1d27a3ee9ap-9, 1)},
		{iv(0.5, 1), single(0.4), iv(0x1.cdfa8abef117ep-1, 1)},
		{single(0.8), iv(minAlpha, 1), iv(0x1.c71c71c71c71cp-1, 0x1.ffee0143e388fp-1)},
	})
}

// The last bits of some of these are others if both directions are exchanged, or their sum is made ahead of that with 1.
func TestKnownEndsOfG2P91(t *testing.T) {
	for _, x := range []struct{ in, out, alpha, want api.Iv }{
		{single(0.5), single(0.5), single(1), single(0.5)},
		{single(1), single(1), single(0.5), single(1)},
		{single(1), single(0.3), single(0.7), iv(0x1.29a8d174234a8p-1, 0x1.29a8d174234abp-1)},
		{single(0.3), single(1), single(0.7), iv(0x1.29a8d174234a8p-1, 0x1.29a8d174234abp-1)},
		{single(0.3), single(0.7), single(0.6), iv(0x1.33d3d1725aa5fp-1, 0x1.33d3d1725aa64p-1)},
		{single(0.1), single(0.4), single(0.3), iv(0x1.d590b2f5dc346p-2, 0x1.d590b2f5dc34ep-2)},
		{single(0.4), single(0.1), single(0.3), iv(0x1.d590b2f5dc348p-2, 0x1.d590b2f5dc34ep-2)},
		{single(0.3), single(0.5), single(0.9), iv(0x1.a35e77e708673p-2, 0x1.a35e77e70867bp-2)},
		{single(0.5), single(0.3), single(0.9), iv(0x1.a35e77e708675p-2, 0x1.a35e77e70867ap-2)},
		{single(0.3), single(0.7), single(1), iv(0x1.ae147ae147adfp-2, 0x1.ae147ae147ae5p-2)},
		{single(0.7), single(0.3), single(1), iv(0x1.ae147ae147adfp-2, 0x1.ae147ae147ae3p-2)},
		{single(0.1), single(0.2), single(minAlpha), iv(0x1.f15bdd0a52d90p-1, 0x1.f15bdd0a52d96p-1)},
		{single(0.9), single(0.01), single(1), iv(0x1.4414414414413p-6, 0x1.4414414414416p-6)},
		{single(power(-500)), single(power(-400)), single(0.5), iv(0x1.ffffffffffffap-499, 0x1.0000000000002p-498)},
		{iv(0.1, 0.2), iv(0.6, 0.7), iv(0.3, 0.4), iv(0x1.871076f108a42p-2, 0x1.6aae060468487p-1)},
		{iv(0.001, 1), iv(0.5, 1), iv(minAlpha, 1), iv(0x1.059eea0727585p-9, 1)},
	} {
		checkG2(t, x.in, x.out, x.alpha, x.want, api.OK)
	}
}

// The formula has no bounds: what it makes of intervals may be far above 1, and just above of a number.
func TestKnownEndsOfFacingP91(t *testing.T) {
	checkKnown(t, facing(), []known{
		{single(0.5), single(0.5), iv(0x1.d89d89d89d89dp-1, 0x1.d89d89d89d89ep-1)},
		{single(0.3), single(0.7), iv(0x1.e855a57864abfp-1, 0x1.e855a57864ac2p-1)},
		{single(0.7), single(0.3), iv(0x1.d7402c5a5e86dp-1, 0x1.d7402c5a5e874p-1)},
		{single(0.9), single(0.1), iv(0x1.eb10ab9d45226p-1, 0x1.eb10ab9d4523bp-1)},
		{single(0.1), single(0.9), iv(0x1.fbd84bb70e14bp-1, 0x1.fbd84bb70e14ep-1)},
		{single(below(1)), single(minAlpha), iv(0x1.ffffffffff800p-44, 0x1.0000000000000p-42)},
		{single(0.01), single(minAlpha), iv(0x1.fffffcb90e2dcp-1, 0x1.fffffcb90e2dfp-1)},
		{single(0.6), single(1), iv(0x1.47ae147ae147bp-1, 0x1.47ae147ae147cp-1)},
		{single(power(-30)), single(0.6), iv(0x1.fffffffffffffp-1, 0x1.0000000000001p+0)},
		{single(tiny), single(0.6), iv(0x1.fffffffffffffp-1, 0x1.0000000000001p+0)},
		{iv(0.25, 0.5), iv(0.5, 0.75), iv(0x1.8acb90f6bf3a9p-1, 0x1.2762762762763p+0)},
		{iv(0.1, 0.11), iv(0.2, 0.21), iv(0x1.feafbb4dffde2p-1, 0x1.006b269d75ef2p+0)},
		{iv(0.001, 1), iv(minAlpha, 1), iv(0, 0x1.ffffde7210beap+9)},
		{iv(0.5, 1), single(0.4), iv(0, 0x1.2c00000000003p+2)},
		{single(0.8), iv(minAlpha, 1), iv(0x1.70a3d70a3d708p-2, 0x1.ff1cd6bd0154fp-1)},
		{iv(0, 0.5), iv(0.25, 0.5), iv(0.75, 0x1.4e5e0a72f053ap+0)},
		{iv(0, 1), iv(minAlpha, 1), iv(0, 1024)},
	})
}

// zeros is cosines whose square has 0, by itself or as it is rounded; overs, those whose square is so small that there is no number for the quotient.
func zeros() []api.Iv {
	return []api.Iv{
		single(0), iv(0, tiny), iv(0, 0.5), iv(0, 1), single(tiny), iv(tiny, 1), single(power(-600)), iv(power(-600), 0.25), single(below(power(-537))),
	}
}

func overs() []api.Iv {
	return []api.Iv{
		single(power(-537)), iv(power(-537), 1), iv(power(-520), 0.5), single(power(-512)), iv(power(-512), 1), single(above(power(-512))), iv(above(power(-512)), 0.75),
	}
}

func TestErrorsOfTheFormulaP91(t *testing.T) {
	alphas, _ := alphasAtEnds()
	for _, alpha := range alphas {
		for _, f := range divided() {
			for _, cos := range zeros() {
				f.check(t, cos, alpha, api.Iv{}, api.ErrZero)
			}
			for _, cos := range overs() {
				f.check(t, cos, alpha, api.Iv{}, api.ErrOver)
			}
		}
	}
}

// What comes next to those errors, but has none.
func TestNoErrorOfTheFormulaP91(t *testing.T) {
	cos := above(above(power(-512)))
	hidden().check(t, single(cos), single(minAlpha), iv(0x1.ffffffffffff6p+505, 0x1.ffffffffffffdp+505), api.OK)
	hidden().check(t, single(cos), single(1), iv(0x1.ffffffffffff6p+510, 0x1.ffffffffffffdp+510), api.OK)
	visible().check(t, single(cos), single(minAlpha), iv(0x1.0000000000001p-506, 0x1.0000000000006p-506), api.OK)
	visible().check(t, iv(cos, 1), single(1), iv(0x1.0000000000001p-511, 1), api.OK)
	for _, cosine := range append(zeros(), overs()...) {
		for _, f := range []function{distribution(), facing()} {
			if _, err := f.of(cosine, iv(minAlpha, 1)); err != api.OK {
				t.Errorf("%s(%v, ..): %d", f.name, cosine, err)
			}
		}
	}
}

// The formula asks for Lambda of in ahead of that of out, and stops at the first error.
func TestFirstErrorOfG2P91(t *testing.T) {
	for _, alpha := range []float64{minAlpha, 0.5, 1} {
		for _, zero := range zeros() {
			checkG2(t, zero, zero, single(alpha), api.Iv{}, api.ErrZero)
			for _, over := range overs() {
				checkG2(t, zero, over, single(alpha), api.Iv{}, api.ErrZero)
				checkG2(t, over, zero, single(alpha), api.Iv{}, api.ErrOver)
			}
		}
	}
}

func TestLimitsP91(t *testing.T) {
	cosines, noCosines := cosinesAtEnds()
	alphas, noAlphas := alphasAtEnds()
	for _, f := range functions() {
		for _, alpha := range alphas {
			for _, cos := range append(cosines, overs()...) { // what is within has no error but those of the formula
				if _, err := f.of(cos, alpha); err != api.OK && err != api.ErrZero && err != api.ErrOver {
					t.Errorf("%s(%v, %v): %d", f.name, cos, alpha, err)
				}
			}
			for _, cos := range noCosines {
				f.check(t, cos, alpha, api.Iv{}, api.ErrArg)
			}
		}
		for _, alpha := range noAlphas {
			for _, cos := range append(append(append(cosines, noCosines...), zeros()...), overs()...) {
				f.check(t, cos, alpha, api.Iv{}, api.ErrArg)
			}
		}
	}
}

// Of the cosines within there are only those at 0, and next to it, whose square may be 0.
func TestNoErrorWithinLimitsP91(t *testing.T) {
	alphas, _ := alphasAtEnds()
	for _, f := range functions() {
		for _, alpha := range alphas {
			for _, cos := range []api.Iv{single(1), single(below(1)), iv(below(1), 1), single(0.5), iv(power(-500), 1)} {
				if _, err := f.of(cos, alpha); err != api.OK {
					t.Errorf("%s(%v, %v): %d", f.name, cos, alpha, err)
				}
			}
		}
	}
}

// A cosine that is beyond comes ahead of what the other one has for an error.
func TestLimitsOfBothP91(t *testing.T) {
	_, noCosines := cosinesAtEnds()
	for _, bad := range noCosines {
		for _, other := range append(append(noCosines, zeros()...), overs()...) {
			checkG2(t, bad, other, single(0.5), api.Iv{}, api.ErrArg)
			checkG2(t, other, bad, single(0.5), api.Iv{}, api.ErrArg)
		}
	}
}

// others is what is within the limits, and what is beyond: an argument that is not right comes ahead of all that are beyond, and of the formula's errors.
func others() []api.Iv {
	return []api.Iv{single(1), single(0.5), single(0), iv(0, 1), single(power(-520)), single(2), single(-1), single(top), iv(-top, 0.5), iv(1, 0)}
}

func TestWrongArgumentsP91(t *testing.T) {
	for _, bad := range wrongOnes() {
		for _, other := range others() {
			for _, f := range functions() {
				f.check(t, bad, other, api.Iv{}, api.ErrIv)
				f.check(t, other, bad, api.Iv{}, api.ErrIv)
			}
			for _, third := range others() {
				checkG2(t, bad, other, third, api.Iv{}, api.ErrIv)
				checkG2(t, other, bad, third, api.Iv{}, api.ErrIv)
				checkG2(t, other, third, bad, api.Iv{}, api.ErrIv)
			}
		}
	}
}
