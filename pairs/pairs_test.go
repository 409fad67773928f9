package pairs_test

import (
	"math"
	"slices"
	"testing"

	"burnish/api"
	"burnish/pairs"
)

const (
	top  = math.MaxFloat64
	tiny = math.SmallestNonzeroFloat64
)

func power(e int) float64 { return math.Ldexp(1, e) }

func above(x float64) float64 { return math.Nextafter(x, top) }

func below(x float64) float64 { return math.Nextafter(x, -top) }

func iv(lo, hi float64) api.Iv { return api.Iv{Lo: lo, Hi: hi} }

func single(x float64) api.Iv { return iv(x, x) }

func at(x, y, z float64) api.Vec { return api.Vec{X: single(x), Y: single(y), Z: single(z)} }

func box(x, y, z api.Iv) api.Vec { return api.Vec{X: x, Y: y, Z: z} }

// same reports whether two intervals have the same bits, so that -0 is not 0.
func same(a, b api.Iv) bool {
	return math.Float64bits(a.Lo) == math.Float64bits(b.Lo) && math.Float64bits(a.Hi) == math.Float64bits(b.Hi)
}

type rgb [3]float64

func lambertOf(r, g, b float64) api.Node {
	return api.Node{Kind: api.NodeLambert, Rho: rgb{r, g, b}}
}

func orenOf(sigma, r, g, b float64) api.Node {
	return api.Node{Kind: api.NodeOren, Sigma: sigma, Rho: rgb{r, g, b}}
}

func plasticOf(alpha, ior float64) api.Node {
	return api.Node{Kind: api.NodePlastic, Alpha: alpha, Ior: ior}
}

func metalOf(alpha float64, eta, k rgb) api.Node {
	return api.Node{Kind: api.NodeMetal, Alpha: alpha, Eta: eta, K: k}
}

// leaves is one of each kind.
func leaves() []api.Node {
	return []api.Node{lambertOf(1, 0.5, 0), orenOf(0.5, 1, 0.25, 0), plasticOf(0.5, 1.5), metalOf(0.5, rgb{1, 0.2, 16}, rgb{2, 3.9, 0.0625})}
}

// directions is X, Y and Z of in, and those of out.
type directions [6]api.Iv

func given(in, out api.Vec) directions {
	return directions{in.X, in.Y, in.Z, out.X, out.Y, out.Z}
}

func (d directions) with(place int, a api.Iv) directions {
	d[place] = a
	return d
}

func (d directions) in() api.Vec { return box(d[0], d[1], d[2]) }

func (d directions) out() api.Vec { return box(d[3], d[4], d[5]) }

func (d directions) exchanged() directions { return given(d.out(), d.in()) }

func (d directions) value(n api.Node, channel int) (api.Iv, api.Errno) {
	return pairs.Value(n, channel, d.in(), d.out())
}

func (d directions) density(n api.Node) (api.Iv, api.Errno) {
	return pairs.Density(n, d.in(), d.out())
}

func checkValue(t *testing.T, n api.Node, channel int, d directions, want api.Iv, err api.Errno) {
	t.Helper()
	if got, e := d.value(n, channel); !same(got, want) || e != err {
		t.Errorf("Value(%+v, %d, %v, %v): %x, %d; want %x, %d", n, channel, d.in(), d.out(), got, e, want, err)
	}
}

func checkDensity(t *testing.T, n api.Node, d directions, want api.Iv, err api.Errno) {
	t.Helper()
	if got, e := d.density(n); !same(got, want) || e != err {
		t.Errorf("Density(%+v, %v, %v): %x, %d; want %x, %d", n, d.in(), d.out(), got, e, want, err)
	}
}

// valueFails holds that Value has that error in each channel.
func valueFails(t *testing.T, n api.Node, d directions, err api.Errno) {
	t.Helper()
	for channel := range 3 {
		checkValue(t, n, channel, d, api.Iv{}, err)
	}
}

func densityFails(t *testing.T, n api.Node, d directions, err api.Errno) {
	t.Helper()
	checkDensity(t, n, d, api.Iv{}, err)
}

func straightUp() directions { return given(at(0, 0, 1), at(0, 0, 1)) }

// channels is the values of the three.
type channels [3]api.Iv

// alike is the values of what has no colour.
func alike(a api.Iv) channels { return channels{a, a, a} }

func TestExamplesP112(t *testing.T) {
	for channel, want := range (channels{iv(0x1.45f306dc9c882p-2, 0x1.45f306dc9c883p-2), iv(0x1.45f306dc9c882p-3, 0x1.45f306dc9c883p-3), single(0)}) {
		checkValue(t, lambertOf(1, 0.5, 0), channel, straightUp(), want, api.OK)
	}
	got, err := straightUp().value(plasticOf(0.5, 1.5), 0)
	if part := 0.04 / math.Pi; err != api.OK || got.Lo > part || got.Hi < part || got.Hi-got.Lo > power(-55) {
		t.Errorf("plastic: %v, %d; want %v", got, err, part)
	}
	checkValue(t, lambertOf(1, 0.5, 0), 3, straightUp(), api.Iv{}, api.ErrArg)
}

func TestExamplesP113(t *testing.T) {
	part := iv(0x1.45f306dc9c882p-2, 0x1.45f306dc9c883p-2) // 1 / pi
	checkDensity(t, lambertOf(1, 0.5, 0), straightUp(), part, api.OK)
	checkDensity(t, plasticOf(0.5, 1.5), straightUp(), part, api.OK)
}

// known is what was worked out by the chapters' formulas with fractions, apart from this program.
type known struct {
	n       api.Node
	d       directions
	value   channels
	density api.Iv
}

func knownScattered() []known {
	return []known{
		{lambertOf(1, 0.5, 0), given(at(0, 0, 1), at(0, 0, 1)), channels{iv(0x1.45f306dc9c882p-2, 0x1.45f306dc9c883p-2), iv(0x1.45f306dc9c882p-3, 0x1.45f306dc9c883p-3), single(0)}, iv(0x1.45f306dc9c882p-2, 0x1.45f306dc9c883p-2)},
		{lambertOf(0.1, 0.3, 0.9), given(at(0.48, 0.64, 0.6), at(-0.6, 0, 0.8)), channels{iv(0x1.04c26be3b06cep-5, 0x1.04c26be3b06dp-5), iv(0x1.8723a1d588a35p-4, 0x1.8723a1d588a37p-4), iv(0x1.255ab960267a8p-2, 0x1.255ab960267aap-2)}, iv(0x1.8723a1d588a35p-3, 0x1.8723a1d588a37p-3)},
		{lambertOf(0.7, 1, 0.2), given(at(1, -1, 0), at(-1, 1, 0)), channels{iv(0x1.c8543cce74be8p-3, 0x1.c8543cce74beap-3), iv(0x1.45f306dc9c882p-2, 0x1.45f306dc9c883p-2), iv(0x1.04c26be3b06cep-4, 0x1.04c26be3b06dp-4)}, single(0)},
		{lambertOf(0.25, 0.75, 1), given(box(iv(-1, 1), iv(-1, 1), iv(0.5, 1)), box(iv(-1, 1), iv(-1, 1), iv(0.25, 1))), channels{iv(0x1.45f306dc9c882p-4, 0x1.45f306dc9c883p-4), iv(0x1.e8ec8a4aeacc3p-3, 0x1.e8ec8a4aeacc5p-3), iv(0x1.45f306dc9c882p-2, 0x1.45f306dc9c883p-2)}, iv(0x1.45f306dc9c882p-3, 0x1.45f306dc9c883p-2)},
		{orenOf(0, 1, 0.5, 0), given(at(0.6, 0, 0.8), at(0.6, 0, 0.8)), channels{iv(0x1.45f306dc9c882p-2, 0x1.45f306dc9c883p-2), iv(0x1.45f306dc9c882p-3, 0x1.45f306dc9c883p-3), single(0)}, iv(0x1.04c26be3b06cep-2, 0x1.04c26be3b06dp-2)},
		{orenOf(1, 1, 0.5, 0.25), given(at(0.6, 0, 0.8), at(0.6, 0, 0.8)), channels{iv(0x1.6f0142886afffp-2, 0x1.6f0142886b005p-2), iv(0x1.6f0142886afffp-3, 0x1.6f0142886b005p-3), iv(0x1.6f0142886afffp-4, 0x1.6f0142886b005p-4)}, iv(0x1.04c26be3b06cep-2, 0x1.04c26be3b06dp-2)},
		{orenOf(1, 1, 0.7, 0.1), given(at(0.6, 0, 0.8), at(-0.6, 0, 0.8)), channels{iv(0x1.43fa0cd43b24fp-3, 0x1.43fa0cd43b259p-3), iv(0x1.c59145291f9a1p-4, 0x1.c59145291f9bp-4), iv(0x1.032e70a9c8ea5p-6, 0x1.032e70a9c8eaep-6)}, iv(0x1.04c26be3b06cep-2, 0x1.04c26be3b06dp-2)},
		{orenOf(0.3, 0.9, 0.6, 0.3), given(at(0.48, 0.64, 0.6), at(-0.6, 0, 0.8)), channels{iv(0x1.ed6aa20fd86dbp-3, 0x1.ed6aa20fd86e5p-3), iv(0x1.48f1c15fe59e7p-3, 0x1.48f1c15fe59eep-3), iv(0x1.48f1c15fe59e7p-4, 0x1.48f1c15fe59eep-4)}, iv(0x1.8723a1d588a35p-3, 0x1.8723a1d588a37p-3)},
		{orenOf(0.5, 1, 0.5, 0.2), given(at(0.1, 0.2, 0.3), at(0.4, -0.5, 0.6)), channels{iv(0x1.1465e80c58a4dp-2, 0x1.1465e80c58a51p-2), iv(0x1.1465e80c58a4dp-3, 0x1.1465e80c58a51p-3), iv(0x1.ba3ca67a276e2p-5, 0x1.ba3ca67a276e9p-5)}, iv(0x1.8723a1d588a35p-4, 0x1.8723a1d588a37p-4)},
		{orenOf(1, 1, 0.3, 0), given(at(1, 1, 1), at(1, 0.5, 0.25)), channels{iv(0x1.baefdd8a28dccp-2, 0x1.baefdd8a28dd1p-2), iv(0x1.09c31e8618847p-3, 0x1.09c31e861884bp-3), single(0)}, iv(0x1.45f306dc9c882p-2, 0x1.45f306dc9c883p-2)},
		{orenOf(0.8, 1, 0.3, 0.6), given(at(-1, 1, 0.25), at(1, -1, 0.5)), channels{iv(0x1.a7eb108eaaab8p-5, 0x1.a7eb108eaaad8p-5), iv(0x1.fcb3ad780000fp-7, 0x1.fcb3ad7800037p-7), iv(0x1.fcb3ad780000fp-6, 0x1.fcb3ad7800037p-6)}, iv(0x1.45f306dc9c882p-4, 0x1.45f306dc9c883p-4)},
		{orenOf(1, 1, 0.5, 0.25), given(at(1, 0, 0), at(0, -1, 0)), channels{iv(0x1.fa36b40b9c6ap-3, 0x1.fa36b40b9c6a5p-3), iv(0x1.fa36b40b9c6ap-4, 0x1.fa36b40b9c6a5p-4), iv(0x1.fa36b40b9c6ap-5, 0x1.fa36b40b9c6a5p-5)}, single(0)},
		{orenOf(0.6, 1, 0.5, 0.25), given(box(iv(0.5, 0.625), iv(-0.25, 0.25), iv(0.75, 0.8)), box(iv(-0.5, -0.375), iv(0.125, 0.25), iv(0.5, 0.75))), channels{iv(0x1.63c7c74246a3p-3, 0x1.2c30901feb99fp-2), iv(0x1.63c7c74246a3p-4, 0x1.2c30901feb99fp-3), iv(0x1.63c7c74246a3p-5, 0x1.2c30901feb99fp-4)}, iv(0x1.e8ec8a4aeacc3p-3, 0x1.04c26be3b06dp-2)},
		{orenOf(1, 1, 0.5, 0.25), given(box(iv(-1, 1), iv(-1, 1), iv(0.5, 1)), box(iv(-1, 1), iv(-1, 1), iv(0.25, 1))), channels{iv(0, 0x1.fa36b40b9c6a5p-2), iv(0, 0x1.fa36b40b9c6a5p-3), iv(0, 0x1.fa36b40b9c6a5p-4)}, iv(0x1.45f306dc9c882p-3, 0x1.45f306dc9c883p-2)},
		{orenOf(0.25, 0.8, 0.4, 0.1), given(box(iv(0.25, 0.5), single(0), single(0.75)), box(iv(0.5, 0.75), iv(0, 0.25), iv(0.25, 0.5))), channels{iv(0x1.dee9c5915ab9dp-3, 0x1.20de4667ed94fp-2), iv(0x1.dee9c5915ab9dp-4, 0x1.20de4667ed94fp-3), iv(0x1.dee9c5915ab9dp-6, 0x1.20de4667ed94fp-5)}, iv(0x1.e8ec8a4aeacc3p-3, 0x1.e8ec8a4aeacc5p-3)},
	}
}

func knownPlastic() []known {
	return []known{
		{plasticOf(0.5, 1.5), given(at(0, 0, 1), at(0, 0, 1)), alike(iv(0x1.a1371305e7147p-7, 0x1.a1371305e714dp-7)), iv(0x1.45f306dc9c882p-2, 0x1.45f306dc9c883p-2)},
		{plasticOf(0.3, 1.5), given(at(0.6, 0, 0.8), at(-0.6, 0, 0.8)), alike(iv(0x1.e4ab8791d729p-5, 0x1.e4ab8791d7336p-5)), iv(0x1.1772f237b214ep+0, 0x1.1772f237b219p+0)},
		{plasticOf(0.3, 1.5), given(at(0.6, 0, 0.8), at(0.6, 0, 0.8)), alike(iv(0x1.483ac712fa78ep-9, 0x1.483ac712fa7c4p-9)), iv(0x1.9f5a2e7b924bp-5, 0x1.9f5a2e7b924d6p-5)},
		{plasticOf(0.5, 2.4), given(at(0.48, 0.64, 0.6), at(-0.6, 0, 0.8)), alike(iv(0x1.635dbf6e2a7c9p-5, 0x1.635dbf6e2a82p-5)), iv(0x1.4f18a4a396dd7p-3, 0x1.4f18a4a396ep-3)},
		{plasticOf(0.5, 2.4), given(at(-0.6, 0, 0.8), at(0.48, 0.64, 0.6)), alike(iv(0x1.635dbf6e2a7c9p-5, 0x1.635dbf6e2a82p-5)), iv(0x1.a3a26ba1d594bp-3, 0x1.a3a26ba1d597fp-3)},
		{plasticOf(1, 4), given(at(0.1, 0.2, 0.3), at(0.4, -0.5, 0.6)), alike(iv(0x1.03266608fd886p-4, 0x1.03266608fd89bp-4)), iv(0x1.976fc893c3aa1p-4, 0x1.976fc893c3aa6p-4)},
		{plasticOf(0.03125, 1.0625), given(at(-0.7, 0.1, 0.2), at(0.3, 0.9, 0.01)), alike(iv(0x1.644082740c78bp-14, 0x1.644082740c816p-14)), iv(0x1.005a18517a714p-8, 0x1.005a18517a71cp-8)},
		{plasticOf(0.4, 1.33), given(box(iv(0.5, 0.625), iv(-0.25, 0.25), iv(0.75, 0.8)), box(iv(-0.5, -0.375), iv(0.125, 0.25), iv(0.5, 0.75))), alike(iv(0x1.1daa07222b2eap-11, 0x1.8db446c716cfbp-4)), iv(0x1.d63edcb276685p-5, 0x1.ee5dcb7a8fe35p-1)},
		{plasticOf(0.9, 3), given(box(iv(-1, 1), iv(-1, 1), iv(0.5, 1)), box(iv(-1, 1), iv(-1, 1), iv(0.25, 1))), alike(iv(0x1.5221a48ef79b4p-9, 0x1.9268151d0075cp-1)), iv(0x1.d0cbce63e7aabp-6, 0x1.9268151d0075cp-2)},
		{plasticOf(0.7, 1.7), given(at(1, 1, 1), at(1, 0.5, 0.25)), alike(iv(0x1.b616f24c05dfcp-8, 0x1.b616f24c05e24p-8)), iv(0x1.975b36d9a0e4ap-4, 0x1.975b36d9a0e58p-4)},
	}
}

func knownMetal() []known {
	return []known{
		{metalOf(0.5, rgb{1, 0.2, 16}, rgb{1, 3.9, 0.0625}), given(at(0, 0, 1), at(0, 0, 1)), channels{iv(0x1.04c26be3b06cep-4, 0x1.04c26be3b06dp-4), iv(0x1.3649c092f8f26p-2, 0x1.3649c092f8f46p-2), iv(0x1.fb8916858b631p-3, 0x1.fb8916858b635p-3)}, iv(0x1.45f306dc9c882p-2, 0x1.45f306dc9c883p-2)},
		{metalOf(0.3, rgb{0.2, 0.9, 1.5}, rgb{3.9, 2.4, 1.9}), given(at(0.6, 0, 0.8), at(-0.6, 0, 0.8)), channels{iv(0x1.482e6c7623ab4p+0, 0x1.482e6c7623b39p+0), iv(0x1.a8dac75d0c871p-1, 0x1.a8dac75d0c901p-1), iv(0x1.1018020a58584p-1, 0x1.1018020a585dep-1)}, iv(0x1.1772f237b214ep+0, 0x1.1772f237b219p+0)},
		{metalOf(0.3, rgb{0.2, 0.9, 1.5}, rgb{3.9, 2.4, 1.9}), given(at(0.6, 0, 0.8), at(0.6, 0, 0.8)), channels{iv(0x1.e83785fe641f3p-5, 0x1.e83785fe64268p-5), iv(0x1.3bd0dedcb1a5bp-5, 0x1.3bd0dedcb1a96p-5), iv(0x1.918c7369b77c2p-6, 0x1.918c7369b7804p-6)}, iv(0x1.9f5a2e7b924bp-5, 0x1.9f5a2e7b924d6p-5)},
		{metalOf(0.5, rgb{0.0625, 16, 1}, rgb{16, 0.0625, 1}), given(at(0.48, 0.64, 0.6), at(-0.6, 0, 0.8)), channels{iv(0x1.fc5150648f68fp-3, 0x1.fc5150648f782p-3), iv(0x1.89a69947dda6fp-3, 0x1.89a69947ddacp-3), iv(0x1.bc055e50050dap-5, 0x1.bc055e5005146p-5)}, iv(0x1.4f18a4a396dd7p-3, 0x1.4f18a4a396ep-3)},
		{metalOf(0.5, rgb{0.0625, 16, 1}, rgb{16, 0.0625, 1}), given(at(-0.6, 0, 0.8), at(0.48, 0.64, 0.6)), channels{iv(0x1.fc5150648f68fp-3, 0x1.fc5150648f782p-3), iv(0x1.89a69947dda6fp-3, 0x1.89a69947ddacp-3), iv(0x1.bc055e50050dap-5, 0x1.bc055e5005146p-5)}, iv(0x1.a3a26ba1d594bp-3, 0x1.a3a26ba1d597fp-3)},
		{metalOf(1, rgb{2, 4, 8}, rgb{8, 2, 4}), given(at(0.1, 0.2, 0.3), at(0.4, -0.5, 0.6)), channels{iv(0x1.3ca1a372f75fdp-3, 0x1.3ca1a372f761dp-3), iv(0x1.3c38c8e44fa22p-4, 0x1.3c38c8e44fa3fp-4), iv(0x1.cfb4f61677cd4p-4, 0x1.cfb4f61677cfap-4)}, iv(0x1.976fc893c3aa1p-4, 0x1.976fc893c3aa6p-4)},
		{metalOf(0.03125, rgb{1.1, 1.2, 1.3}, rgb{0.5, 0.6, 0.7}), given(at(-0.7, 0.1, 0.2), at(0.3, 0.9, 0.01)), channels{iv(0x1.3d6614b926f33p-9, 0x1.3d6614b926f77p-9), iv(0x1.6cf0f36c0b95ap-9, 0x1.6cf0f36c0b9a2p-9), iv(0x1.a068108414b55p-9, 0x1.a068108414b9fp-9)}, iv(0x1.005a18517a714p-8, 0x1.005a18517a71cp-8)},
		{metalOf(0.4, rgb{0.15, 0.4, 1.5}, rgb{3, 2.4, 1.9}), given(box(iv(0.5, 0.625), iv(-0.25, 0.25), iv(0.75, 0.8)), box(iv(-0.5, -0.375), iv(0.125, 0.25), iv(0.5, 0.75))), channels{iv(0x1.5837e6a3a78c4p-5, 0x1.42ae90384fc9p+0), iv(0x1.17759669ee626p-5, 0x1.42ae90384fc9p+0), iv(0x1.1b34741f0c626p-6, 0x1.c64bf0481e7f2p-1)}, iv(0x1.d63edcb276685p-5, 0x1.ee5dcb7a8fe35p-1)},
		{metalOf(0.9, rgb{1, 3, 0.1}, rgb{5, 0.2, 1}), given(box(iv(-1, 1), iv(-1, 1), iv(0.5, 1)), box(iv(-1, 1), iv(-1, 1), iv(0.25, 1))), channels{iv(0x1.466e01c4563a6p-7, 0x1.9268151d0075cp-1), iv(0x1.c8100d678b41bp-10, 0x1.61024b445eeeep-1), iv(0, 0x1.9268151d0075cp-1)}, iv(0x1.d0cbce63e7aabp-6, 0x1.9268151d0075cp-2)},
	}
}

func allKnown() []known {
	return slices.Concat(knownScattered(), knownPlastic(), knownMetal())
}

func TestKnownEndsP112(t *testing.T) {
	for _, x := range allKnown() {
		for channel, want := range x.value {
			checkValue(t, x.n, channel, x.d, want, api.OK)
		}
	}
}

func TestKnownEndsP113(t *testing.T) {
	for _, x := range allKnown() {
		checkDensity(t, x.n, x.d, x.density, api.OK)
	}
}

// Directions that are no unit vectors, and some that are, have a dot product beyond 1: without the clamp layer 8 would have ErrArg.
func TestClampedP112(t *testing.T) {
	rough := orenOf(1, 1, 1, 1)
	for _, x := range []struct{ beyond, bound directions }{
		{given(at(1, 1, 1), at(1, 1, 1)), given(at(0, 0, 1), at(0, 0, 1))},
		{given(at(1, 1, 0.5), at(1, 1, 0.5)), given(at(1, 0, 0.5), at(1, 0, 0.5))},
		{given(at(-1, 1, 0.25), at(1, -1, 0.5)), given(at(1, 0.125, 0.25), at(-1, -1, 0.5))},
		{given(at(1, 1, 0), at(-1, -1, 0)), given(at(1, 0, 0), at(-1, 0, 0))},
		{given(box(iv(-1, 1), iv(-1, 1), iv(0.5, 1)), at(1, 1, 1)), given(box(iv(-1, 1), single(0), iv(0.5, 1)), at(1, 0, 1))},
	} {
		got, err := x.beyond.value(rough, 0)
		want, e := x.bound.value(rough, 0)
		if err != api.OK || e != api.OK || !same(got, want) {
			t.Errorf("Value of %v: %v, %d; but of %v: %v, %d", x.beyond, got, err, x.bound, want, e)
		}
	}
}

// Lambert has no error of its own, nor has the density of what is drawn by its cosine.
func TestNoErrorP112(t *testing.T) {
	for _, d := range []directions{given(at(0, 0, 0), at(0, 0, 0)), given(at(1, 0, 0), at(-1, 0, 0)), given(at(1, 1, tiny), at(1, 1, 0)), given(box(iv(-1, 1), iv(-1, 1), iv(0, 1)), box(iv(-1, 1), iv(-1, 1), iv(0, 1)))} {
		checkValue(t, lambertOf(1, 0.5, 0), 0, d, iv(0x1.45f306dc9c882p-2, 0x1.45f306dc9c883p-2), api.OK)
		checkValue(t, lambertOf(1, 0.5, 0), 2, d, single(0), api.OK)
	}
}

// The density is told of in alone, whatever errors the value has.
func TestNoErrorP113(t *testing.T) {
	for _, n := range leaves()[:2] {
		for _, out := range []api.Vec{at(1, 0, 0), at(-1, 1, 0), at(0, 0, tiny), at(0, 0, 1), box(iv(-1, 1), iv(-1, 1), iv(0, 1))} {
			checkDensity(t, n, given(at(1, 0, 0), out), single(0), api.OK)
			checkDensity(t, n, given(at(1, 0, 0.5), out), iv(0x1.45f306dc9c882p-3, 0x1.45f306dc9c883p-3), api.OK)
			checkDensity(t, n, given(box(iv(-1, 1), iv(-1, 1), iv(0, 1)), out), iv(0, 0x1.45f306dc9c883p-2), api.OK)
			checkDensity(t, n, given(at(0, 0, tiny), out), iv(0, tiny), api.OK)
		}
	}
}

// What scatters back is divided by the greater cosine: where that is 0, or next to it, there is an error, if the directions are not surely on different sides.
func TestErrorsOfOrenP112(t *testing.T) {
	side, least := at(0.6, 0.8, 0), above(power(-1024))
	for _, n := range []api.Node{orenOf(1, 1, 1, 1), orenOf(0, 0, 0, 0)} {
		valueFails(t, n, given(side, side), api.ErrZero)
		valueFails(t, n, given(at(0, 1, 0), box(single(0), iv(-1, 1), iv(0, 1))), api.ErrZero)
		valueFails(t, n, given(side, at(0.6, 0.8, tiny)), api.ErrOver)
		valueFails(t, n, given(at(0.6, 0.8, below(least)), side), api.ErrOver)
		for _, d := range []directions{given(at(0.6, 0.8, least), side), given(side, at(0.6, 0.8, least)), given(side, at(-0.6, 0, 0)), given(side, at(0, 0, 0))} {
			if got, err := d.value(n, 0); err != api.OK {
				t.Errorf("Value(%+v, 0, %v, %v): %v, %d", n, d.in(), d.out(), got, err)
			}
		}
	}
}

// ofMirrors is directions with an error of layer 10: of the half vector, of what is visible of in, and of out.
func ofMirrors() map[api.Errno][]directions {
	short, wide := power(-520), box(iv(-1, 1), single(0), iv(power(-511), 1))
	low, lower, lowest := wide, wide, wide
	low.Z.Lo, lower.Z.Lo, lowest.Z.Lo = short, power(-537), 0
	return map[api.Errno][]directions{
		api.ErrZero: {given(at(0, 0, 0), at(0, 0, 0)), given(at(1, 0, 0), at(-1, 0, 0)), given(at(1, 0, 0), at(0, 0, 1)), given(at(0, 0, 1), at(1, 0, 0)), given(at(0, 1, tiny), at(1, 0, short)), given(lowest, wide), given(wide, lowest)},
		api.ErrOver: {given(at(1, 0, short), at(0, 0, 1)), given(at(0, 0, 1), at(1, 0, short)), given(at(0, 1, short), at(1, 0, 0)), given(low, low), given(lower, lower)},
	}
}

func TestErrorsOfMirrorsP112(t *testing.T) {
	for err, all := range ofMirrors() {
		for _, d := range all {
			for _, n := range leaves()[2:] {
				valueFails(t, n, d, err)
			}
			// Here what layer 6 makes of the half vector would have an error, too, in some cases another one.
			valueFails(t, metalOf(1, rgb{0.0625, 0.0625, 0.0625}, rgb{0.0625, 0.0625, 0.0625}), d, err)
		}
	}
}

func TestErrorsOfMirrorsP113(t *testing.T) {
	for err, all := range ofMirrors() {
		for _, d := range all {
			for _, n := range leaves()[2:] {
				densityFails(t, n, d, err)
			}
		}
	}
}

// rising is twice a direction that is anywhere between straight up and the cosine least.
func rising(least float64) directions {
	d := box(iv(-1, 1), single(0), iv(least, 1))
	return given(d, d)
}

// Where the cosine of the half vector goes from next to 0 up to 1, a metal may divide by next to nothing, in one channel and not in another one; that is no error of the density.
func TestErrorOfMetalP112(t *testing.T) {
	const least = 0x1.00007fff60017p-508
	n := metalOf(1, rgb{0.0625, 1, 0.0625}, rgb{0.0625, 0.0625, 1})
	checkValue(t, n, 0, rising(least), iv(0, 0x1.45f1c0ec218bp+1012), api.OK)
	checkValue(t, n, 0, rising(below(least)), api.Iv{}, api.ErrOver)
	for channel := 1; channel < 3; channel++ {
		if got, err := rising(below(least)).value(n, channel); err != api.OK || got.Hi < power(1000) {
			t.Errorf("Value(%+v, %d, ..): %v, %d", n, channel, got, err)
		}
	}
	if got, err := rising(below(least)).value(plasticOf(1, 1.5), 0); err != api.OK || got.Hi < power(1000) {
		t.Errorf("plastic: %v, %d", got, err)
	}
}

func TestNoErrorOfMetalP113(t *testing.T) {
	n := metalOf(1, rgb{0.0625, 0.0625, 0.0625}, rgb{0.0625, 0.0625, 0.0625})
	checkDensity(t, n, rising(0x1.00007fff60016p-508), iv(0x1.45f3a9d554403p-511, 0x1.45f263e4364bep+504), api.OK)
	valueFails(t, n, rising(0x1.00007fff60016p-508), api.ErrOver)
}

func TestChannelsP112(t *testing.T) {
	for _, n := range leaves() {
		for _, channel := range []int{-1, 3, 4, -3, 255, 256, math.MaxInt, math.MinInt, 1 << 32} {
			for _, d := range []directions{straightUp(), given(at(1, 0, 0), at(-1, 0, 0)), straightUp().with(2, single(2))} {
				checkValue(t, n, channel, d, api.Iv{}, api.ErrArg)
			}
			checkValue(t, n, channel, straightUp().with(5, iv(1, 0)), api.Iv{}, api.ErrIv)
		}
	}
}

// limits is what is within the limits of a component, and what is beyond.
func limits(place int) (within, beyond []api.Iv) {
	low, high := -1.0, 1.0
	if place%3 == 2 {
		low = 0
	}
	within = []api.Iv{
		single(low), single(above(low)), single(below(high)), single(high), iv(low, above(low)), iv(below(high), high), iv(low, high), single(0.5),
	}
	beyond = []api.Iv{
		single(below(low)), single(above(high)), iv(below(low), low), iv(below(low), high), iv(high, above(high)), iv(low, above(high)),
		iv(below(low), above(high)), single(low - 1), single(high + 1), single(-top), single(top), iv(-top, top), iv(-top, low), iv(high, top),
	}
	return within, beyond
}

// others is directions that are within the limits: without an error, and with one of what lies below.
func others() []directions {
	return []directions{straightUp(), given(at(1, 0, 0), at(-1, 0, 0)), given(at(0.6, 0.8, 0), at(0.6, 0.8, 0)), given(at(1, 0, power(-520)), at(0, 1, 0))}
}

func TestLimitsP112(t *testing.T) {
	for place := range straightUp() {
		within, beyond := limits(place)
		for _, n := range leaves() {
			for _, a := range within {
				if got, err := straightUp().with(place, a).value(n, 1); err == api.ErrIv || err == api.ErrArg || err == api.OK && got.Hi <= 0 {
					t.Errorf("Value(%+v, 1, ..) with %v in place %d: %v, %d", n, a, place, got, err)
				}
			}
			for _, a := range beyond {
				for _, other := range others() {
					valueFails(t, n, other.with(place, a), api.ErrArg)
				}
			}
		}
	}
}

func TestLimitsP113(t *testing.T) {
	for place := range straightUp() {
		within, beyond := limits(place)
		for _, n := range leaves() {
			for _, a := range within {
				if got, err := straightUp().with(place, a).density(n); err == api.ErrIv || err == api.ErrArg || err == api.OK && a.Hi > 0 && got.Hi <= 0 {
					t.Errorf("Density(%+v, ..) with %v in place %d: %v, %d", n, a, place, got, err)
				}
			}
			for _, a := range beyond {
				for _, other := range others() {
					densityFails(t, n, other.with(place, a), api.ErrArg)
				}
			}
		}
	}
}

// wrongOnes is what is not a right interval; most of them would be within the limits, if they were one.
func wrongOnes() []api.Iv {
	l := []api.Iv{iv(1, 0), iv(1, 0.5), iv(0.5, below(0.5)), iv(tiny, 0), iv(0, -tiny), iv(top, -top), iv(2, 1), iv(above(1), 1)}
	for _, bad := range []float64{
		math.NaN(), -math.NaN(), math.Float64frombits(0x7ff0000000000001), math.Float64frombits(math.MaxUint64),
		math.Inf(1), math.Inf(-1), math.Copysign(0, -1),
	} {
		l = append(l, single(bad), iv(bad, 1), iv(0, bad), iv(0.5, bad), iv(bad, 2), iv(-1, bad))
	}
	return l
}

// What is not right comes ahead of what is beyond its limits, be it in a place ahead of it or behind, of what is no leaf, and of the errors of what lies below.
func TestWrongOnesP112(t *testing.T) {
	for _, bad := range wrongOnes() {
		for place := range straightUp() {
			for _, n := range append(leaves(), api.Node{}, lambertOf(2, 2, 2)) {
				for _, other := range others() {
					valueFails(t, n, other.with(place, bad), api.ErrIv)
				}
				wrong := straightUp().with(place, bad)
				for second := range wrong {
					if second != place {
						checkValue(t, n, second-2, wrong.with(second, single(2)), api.Iv{}, api.ErrIv)
					}
				}
			}
		}
	}
}

func TestWrongOnesP113(t *testing.T) {
	for _, bad := range wrongOnes() {
		for place := range straightUp() {
			for _, n := range append(leaves(), api.Node{}, lambertOf(2, 2, 2)) {
				for _, other := range others() {
					densityFails(t, n, other.with(place, bad), api.ErrIv)
				}
				wrong := straightUp().with(place, bad)
				for second := range wrong {
					if second != place {
						densityFails(t, n, wrong.with(second, single(2)), api.ErrIv)
					}
				}
			}
		}
	}
}
