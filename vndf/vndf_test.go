package vndf_test

import (
	"math"
	"testing"

	"burnish/api"
	"burnish/vndf"
)

const (
	top  = math.MaxFloat64
	tiny = math.SmallestNonzeroFloat64
	half = uint64(1) << 63
	last = uint64(math.MaxUint64)

	minAlpha = 0.03125
)

func power(e int) float64 { return math.Ldexp(1, e) }

func above(x float64) float64 { return math.Nextafter(x, top) }

func below(x float64) float64 { return math.Nextafter(x, -top) }

func iv(lo, hi float64) api.Iv { return api.Iv{Lo: lo, Hi: hi} }

func single(x float64) api.Iv { return iv(x, x) }

func at(x, y, z float64) api.Vec { return box(single(x), single(y), single(z)) }

func box(x, y, z api.Iv) api.Vec { return api.Vec{X: x, Y: y, Z: z} }

func up() api.Vec { return at(0, 0, 1) }

// same reports whether two intervals have the same bits, so that -0 is not 0.
func same(a, b api.Iv) bool {
	return math.Float64bits(a.Lo) == math.Float64bits(b.Lo) && math.Float64bits(a.Hi) == math.Float64bits(b.Hi)
}

func sameVec(a, b api.Vec) bool { return same(a.X, b.X) && same(a.Y, b.Y) && same(a.Z, b.Z) }

// drawn is all that Draw is given.
type drawn struct {
	out    api.Vec
	alpha  api.Iv
	u1, u2 uint64
}

func (x drawn) normal() (api.Vec, api.Errno) { return vndf.Draw(x.out, x.alpha, x.u1, x.u2) }

func checkDraw(t *testing.T, x drawn, want api.Vec, err api.Errno) {
	t.Helper()
	if got, e := x.normal(); !sameVec(got, want) || e != err {
		t.Errorf("Draw(%v, %v, %#x, %#x): %x, %d; want %x, %d", x.out, x.alpha, x.u1, x.u2, got, e, want, err)
	}
}

func drawFails(t *testing.T, x drawn, err api.Errno) {
	t.Helper()
	checkDraw(t, x, api.Vec{}, err)
}

// asked is all that Density is given.
type asked struct {
	out, normal api.Vec
	alpha       api.Iv
}

func (x asked) density() (api.Iv, api.Errno) { return vndf.Density(x.out, x.normal, x.alpha) }

func checkDensity(t *testing.T, x asked, want api.Iv, err api.Errno) {
	t.Helper()
	if got, e := x.density(); !same(got, want) || e != err {
		t.Errorf("Density(%v, %v, %v): %x, %d; want %x, %d", x.out, x.normal, x.alpha, got, e, want, err)
	}
}

func densityFails(t *testing.T, x asked, err api.Errno) {
	t.Helper()
	checkDensity(t, x, api.Iv{}, err)
}

func TestExamplesP131(t *testing.T) {
	checkDraw(t, drawn{up(), single(0.5), 0, 0}, up(), api.OK)
	// The second component is 0.5, but for what is rounded.
	checkDraw(t, drawn{at(0.6, 0, 0.8), single(1), 1 << 62, 0}, box(iv(0x1.ca795e1f0cea2p-2, 0x1.ca795e1f0cec1p-2), iv(0x1.ffffffffffff1p-2, 0x1.0000000000005p-1), iv(0x1.7b8cdbd59ebddp-1, 0x1.7b8cdbd59ebf3p-1)), api.OK)
}

func TestExampleP132(t *testing.T) {
	checkDensity(t, asked{up(), up(), single(0.5)}, iv(0x1.45f306dc9c882p+0, 0x1.45f306dc9c883p+0), api.OK) // 4 / pi
}

// All known ends were worked out by the chapters' formulas with fractions, apart from this program.
func TestKnownEndsP131(t *testing.T) {
	for _, x := range []struct {
		out    api.Vec
		alpha  api.Iv
		u1, u2 uint64
		want   api.Vec
	}{
		{up(), single(0.5), half, 1 << 62, box(single(0), iv(0x1.c9f25c5bfedd4p-2, 0x1.c9f25c5bfedddp-2), iv(0x1.c9f25c5bfedd3p-1, 0x1.c9f25c5bfeddfp-1))},
		{up(), single(1), half, 0, box(iv(0x1.6a09e667f3bcap-1, 0x1.6a09e667f3bdp-1), single(0), iv(0x1.6a09e667f3bc9p-1, 0x1.6a09e667f3bd1p-1))},
		{up(), single(minAlpha), 3 << 62, 1 << 61, box(iv(0x1.39138fe5bea12p-5, 0x1.39138fe5bea2fp-5), iv(0x1.39138fe5bea12p-5, 0x1.39138fe5bea2fp-5), iv(0x1.ff406bbcac2bfp-1, 0x1.ff406bbcac304p-1))},
		{at(0, 0, 0.25), single(0.3), 0x123456789abcdef, 0xfedcba9876543210, box(iv(0x1.483775d8b7f83p-6, 0x1.483775d8b7f8cp-6), iv(-0x1.255f9bb8f4eeap-11, -0x1.255f9bb8f4e5fp-11), iv(0x1.ffe5ad2f54c8cp-1, 0x1.ffe5ad2f54c95p-1))},
		{up(), single(0.7), last, 3 << 61, box(iv(-0x1.6a09e667f3bd3p-1, -0x1.6a09e667f3bc1p-1), iv(0x1.6a09e667f3bc1p-1, 0x1.6a09e667f3bd3p-1), iv(0, 0x1.6db6db6db6dbbp-25))},
		{at(0.6, 0, 0.8), single(1), 0, 0, box(iv(0x1.08b33c6b678fdp-1, 0x1.08b33c6b67912p-1), single(0), iv(0x1.b644508f34bfdp-1, 0x1.b644508f34c17p-1))},
		{at(0.6, 0, 0.8), single(0.5), half, half, box(iv(0x1.2fac2cfd95306p-3, 0x1.2fac2cfd9531fp-3), iv(-0x1.d8cef14374ad5p-2, -0x1.d8cef14374abbp-2), iv(0x1.bfc3d73597f37p-1, 0x1.bfc3d73597f54p-1))},
		{at(0, -0.6, 0.8), single(0.3), 1 << 62, 3 << 62, box(single(0), iv(-0x1.067f2d1704742p-2, -0x1.067f2d1704727p-2), iv(0x1.eee44ac405507p-1, 0x1.eee44ac405533p-1))},
		{at(-0.48, 0.64, 0.6), single(0.1), 0xab54a98ceb1f0ad2, 0x891087b8e3b70cb1, box(iv(0x1.684558c04d4f4p-4, 0x1.684558c04d53ap-4), iv(0x1.f6c3b956c3f2ep-4, 0x1.f6c3b956c3f82p-4), iv(0x1.fa20fa92e83e5p-1, 0x1.fa20fa92e8431p-1))},
		{at(-0.48, -0.6, 0.64), single(minAlpha), 0xffe0000000000000, 0x3333333333333333, box(iv(0x1.96dcab1053717p-2, 0x1.96dcab1054ee9p-2), iv(0x1.0b65a9af46bd1p-2, 0x1.0b65a9af47b8ep-2), iv(0x1.c26d531104c54p-1, 0x1.c26d531108846p-1))},
		{at(1, 0, 0), single(0.5), half, 1 << 61, box(iv(0x1.5ff91fb094734p-2, 0x1.5ff91fb09474dp-2), iv(0x1.4a8717402bce5p-2, 0x1.4a8717402bcf4p-2), iv(0x1.c3825d1563efp-1, 0x1.c3825d1563f03p-1))},
		{at(0, -1, 0), single(1), 3 << 62, 7 << 61, box(iv(0x1.3988e14092128p-1, 0x1.3988e14092136p-1), iv(-0x1.9231541235755p-1, -0x1.9231541235742p-1), iv(0x1.6cf289b44e877p-4, 0x1.6cf289b44e8aep-4))},
		{at(-1, 0, 0), single(0.25), 1 << 62, 3 << 62, box(iv(-0x1.6426c6dd84ec3p-1, -0x1.6426c6dd84ecp-1), single(0), iv(0x1.6fd4e79325466p-1, 0x1.6fd4e79325468p-1))},
		{at(1, 1, 1), single(0.9), 1000003, 0x5555555555555555, box(iv(0x1.bc7ac878a644p-2, 0x1.bc7ac878a646ap-2), iv(0x1.bc7abe18f0e9cp-2, 0x1.bc7abe18f0ec7p-2), iv(0x1.942e8dc05c864p-1, 0x1.942e8dc05c883p-1))},
		{at(0.1, 0.2, 0.3), single(0.2), last, 5 << 61, box(iv(0x1.e5b9d136c6d6p-1, 0x1.e5b9d136c6dccp-1), iv(0x1.43d13624848c3p-2, 0x1.43d136248495ep-2), iv(0, 0x1.2a20000000013p-45))},
		{at(0.1, -0.2, 0), single(0.6), last, last, box(iv(0x1.c9f25c1b3b6afp-1, 0x1.c9f25cedb69dbp-1), iv(0x1.c9f25ad76a34ep-2, 0x1.c9f25c9cc2502p-2), iv(0, 0x1.2db2ead6a073bp-26))},
		{at(power(-530), -power(-533), power(-531)), single(0.5), 1, 1, box(iv(0x1.63166b9c019bp-2, 0x1.63166b9c019c3p-2), iv(-0x1.63166b892873bp-5, -0x1.63166b8928727p-5), iv(0x1.dfb7e45f70ef9p-1, 0x1.dfb7e45f70f1p-1))},
		{at(power(-500), 0, 1), single(1), half, 0x2468ace013579bdf, box(iv(-0x1.1a26859ae6047p-1, -0x1.1a26859ae603p-1), iv(0x1.c5b5aacee6747p-2, 0x1.c5b5aacee6767p-2), iv(0x1.6a09e667f3bbfp-1, 0x1.6a09e667f3bdcp-1))},
		{at(0.6, 0, 0.8), iv(0.25, 0.5), half, 1 << 61, box(iv(-0x1.23d6d76a492a6p-2, 0x1.02ed6a6d27a96p-5), iv(0x1.0117406d72022p-4, 0x1.7320a7f9a1d57p-2), iv(0x1.72eb011e022c4p-1, 1))},
		{box(iv(0.5, 0.625), iv(-0.25, 0.25), iv(0.75, 0.8)), single(0.5), 1 << 62, 1 << 61, box(iv(-0x1.f315a86f3cb76p-3, 0x1.d4adffd43b22p-3), iv(-0x1.59c2447eec059p-4, 0x1.e639c56cc5294p-2), iv(0x1.51e9ae1945eep-1, 1))},
		{box(iv(0.5, 0.50001), iv(0.1, 0.10001), iv(0.8, 0.80001)), iv(0.3, 0.30001), 0x9e3779b97f4a7c15, 0xbf58476d1ce4e5b9, box(iv(0x1.e2421c81c8414p-2, 0x1.e272c172a37dcp-2), iv(0x1.64f177be059c2p-4, 0x1.651fa049ea78dp-4), iv(0x1.c15a123524226p-1, 0x1.c181611b46a5cp-1))},
		{box(iv(-1, -0.75), iv(-0.75, -0.5), iv(0.25, 0.5)), iv(0.75, 1), 3 << 62, 0, box(iv(-1, 1), iv(-1, -0x1.a7ef837142a95p-4), iv(0x1.cc3c2b59af1f8p-5, 1))},
		{box(iv(0.25, 0.5), iv(-0.75, -0.5), iv(0.25, 0.5)), iv(0.75, 1), 0, 0, box(iv(-0x1.dfde23e64b258p-1, 1), iv(-1, 0x1.7f788f992c95cp-3), iv(0x1.9794557aa7793p-4, 1))},
		{box(single(0), single(0), iv(0.1, 1)), single(0.5), half, 1 << 61, box(iv(0x1.08c7ff3af7637p-2, 0x1.ff3a33c60c247p-1), iv(0x1.d203d5af75f6ap-7, 1), iv(0, 1))},
		{box(iv(0.5625, 1), iv(-0.25, -0.1875), iv(0.375, 1)), single(0.125), half, 9 << 60, box(iv(-0x1.12a76f90b93d8p-1, 0x1.8c1c55b1bb783p-2), iv(-0x1.9ca73da7ad4fep-1, -0x1.010b0418b38b4p-6), iv(0x1.89d9751a8d7ddp-3, 1))},
		{box(iv(-0.5625, -0.0625), iv(0, 0.375), iv(0.625, 0.9375)), single(0.625), 1 << 60, 11 << 60, box(iv(-1, 0x1.d65f5eecd1d44p-4), iv(-0x1.c7ce581cb7e1p-8, 1), iv(0x1.3d65bd7f1ed05p-2, 1))},
		// The upper end of N.Z is nearer to 0 than the lower one, which becomes 0.
		{box(iv(0.25, 0.5625), iv(-0.8125, -0.375), iv(0.0625, 0.8125)), single(0.125), 7 << 61, 3 << 62, box(iv(0x1.a5d80e8c28054p-10, 1), iv(-1, -0x1.3c620ae91e03ep-9), iv(0, 1))},
		{box(iv(-0.75, -0.0625), iv(0.6875, 0.875), iv(0.375, 0.5)), single(0.75), 7 << 61, 7 << 61, box(iv(-1, -0x1.12e9fecd10701p-3), iv(-1, 1), iv(0, 1))},
		{box(iv(-0.01, 0.01), iv(0.25, 0.26), single(0.9)), single(1), 3 << 61, 5 << 61, box(iv(0x1.83bd0cd0a8903p-2, 0x1.ea8fd40087642p-2), iv(0x1.1bba6ebf27f73p-1, 0x1.5485b2a7dd325p-1), iv(0x1.46b1b6961a331p-1, 0x1.67eec9fd22d58p-1))},
	} {
		checkDraw(t, drawn{x.out, x.alpha, x.u1, x.u2}, x.want, api.OK)
	}
}

func TestKnownEndsP132(t *testing.T) {
	for _, x := range []struct {
		out, normal api.Vec
		alpha, want api.Iv
	}{
		{up(), up(), single(minAlpha), iv(0x1.45f306dc9c882p+8, 0x1.45f306dc9c883p+8)},
		{up(), up(), single(1), iv(0x1.45f306dc9c882p-2, 0x1.45f306dc9c883p-2)},
		{at(0.6, 0, 0.8), up(), single(1), iv(0x1.21bb9452524p-2, 0x1.21bb945252406p-2)},
		{at(0.6, 0, 0.8), up(), single(0.3), iv(0x1.bf1e50591cf3p+1, 0x1.bf1e50591cf4fp+1)},
		{at(0.6, 0, 0.8), at(0.6, 0, 0.8), single(0.3), iv(0x1.9f5a2e7b924bap-3, 0x1.9f5a2e7b924cep-3)},
		{at(0.6, 0, 0.8), at(0, 0.6, 0.8), single(0.3), iv(0x1.09d350f2ecfd4p-3, 0x1.09d350f2ecfe2p-3)},
		{at(0, 0.6, 0.8), at(0.48, 0.64, 0.6), single(0.5), iv(0x1.3f6e6a854c2e5p-3, 0x1.3f6e6a854c2efp-3)},
		{at(0.48, 0.64, 0.6), at(0, 0.6, 0.8), single(0.5), iv(0x1.8a2c918587087p-2, 0x1.8a2c918587097p-2)},
		{at(0.48, -0.64, 0.6), at(-0.6, 0, 0.8), single(0.1), iv(0x1.ef0d8dfda118dp-8, 0x1.ef0d8dfda11adp-8)},
		{at(1, 1, 1), at(1, 1, 1), single(0.9), iv(0x1.9268151d00754p-2, 0x1.9268151d0075cp-2)},
		{at(0.1, 0.2, 0.3), at(0.4, -0.5, 0.6), single(0.7), iv(0x1.bdccbef4dd881p-5, 0x1.bdccbef4dd895p-5)},
		{at(0.1, 0.2, 0.3), at(1, 0, 0), single(0.7), iv(0x1.ef3746b49a56ap-6, 0x1.ef3746b49a576p-6)},
		{at(1, 0, power(-40)), at(1, 0, power(-30)), single(0.5), iv(0x1.45f306dc99fc2p-2, 0x1.45f306dc99fc9p-2)},
		{at(1, 0, power(-511)), up(), single(0.5), iv(0x1.45f306dc9c87fp-509, 0x1.45f306dc9c886p-509)},
		{at(0, 0, power(-511)), up(), single(minAlpha), iv(0x1.45f306dc9c87fp-497, 0x1.45f306dc9c886p-497)},
		{at(0.6, 0, 0.8), up(), iv(0.25, 0.5), iv(0x1.3b3b3be4baeb6p-2, 0x1.432241831bc24p+4)},
		{box(iv(0.5, 0.625), iv(-0.25, 0.25), iv(0.75, 0.8)), box(iv(-0.5, -0.375), iv(0.125, 0.25), iv(0.5, 0.75)), single(0.5), iv(0, 0x1.2aaaf02dc54ecp-3)},
		{box(iv(-1, 1), iv(-1, 1), iv(0.25, 1)), box(iv(-1, 1), iv(-1, 1), iv(0, 1)), iv(minAlpha, 1), iv(0, 0x1.45f306dc9c883p+20)},
		{box(iv(0.25, 0.5), iv(0.1, 0.2), iv(0.5, 1)), box(iv(-0.3, -0.2), iv(0.1, 0.2), iv(0.9, 0.95)), single(0.2), iv(0x1.3d9a25277d1bcp-4, 0x1.575117c96795bp+0)},
		{box(iv(-0.625, -0.5), iv(0, 0.125), iv(0.25, 0.5)), box(iv(-0.5, 1), iv(-1, 1), iv(0, 0.5)), iv(0.25, 0.375), iv(0, 0x1.9b9bb26de81b2p-3)},
	} {
		checkDensity(t, asked{x.out, x.normal, x.alpha}, x.want, api.OK)
	}
}

// What cannot be seen from out has the density 0: without a bound it would be below that.
func TestTurnedAwayP132(t *testing.T) {
	for _, x := range []struct {
		out, normal api.Vec
		want        api.Iv
	}{
		{at(0.8, 0, 0.6), at(-0.8, 0, 0.6), single(0)},
		{at(0.6, 0.6, 0.5), at(-0.8, -0.6, 0), single(0)},
		{at(0.6, 0, 0.8), at(-1, 0, 0), single(0)},
		{at(0.6, 0, 0.8), at(-0.8, 0, 0.6), iv(0, 0x1.6a2a7966e6d06p-56)},
		{box(iv(0.5, 0.75), single(0), single(0.5)), box(iv(-0.75, -0.5), single(0), single(0.5)), single(0)},
	} {
		checkDensity(t, asked{x.out, x.normal, single(1)}, x.want, api.OK)
	}
}

// noDirection is what has no length, even stretched: it is 0, or its squares may be rounded to that.
func noDirection(alpha float64) []api.Vec {
	short := below(power(-537))
	along := below(power(-537) / alpha)
	return []api.Vec{
		at(0, 0, 0), at(0, 0, short), at(0, 0, tiny), at(along, 0, 0), at(0, -along, 0), at(along, -along, short), at(-along, along, 0),
		box(iv(-1, 1), iv(-1, 1), iv(0, 1)), box(iv(0, 1), single(0), iv(0, 1)), box(single(0), iv(-1, 0), single(0)), box(iv(-along, 1), iv(along, 1), iv(short, 1)),
	}
}

// nearlyUp is what may be straight up, but may be another direction, too.
func nearlyUp(alpha float64) []api.Vec {
	along := power(-537) / alpha
	return []api.Vec{
		at(tiny/alpha, 0, 1), at(along, 0, 1), at(-along, 0, 1), at(0, along, 1), at(below(along), -below(along), 1),
		box(iv(-0.5, 0.5), single(0), single(1)), box(single(0), iv(-1, 0), iv(0.5, 1)), box(iv(0, tiny/alpha), single(0), single(1)),
		box(iv(-tiny/alpha, 0), iv(0, tiny/alpha), single(0.25)), box(iv(-1, 1), iv(-1, 1), iv(0.5, 1)), box(iv(0, 0.25), iv(-0.25, 0), iv(0.9, 1)),
	}
}

func anyTurns() []uint64 { return []uint64{0, 1, 1 << 61, 1 << 62, half, 3<<62 + 5, last} }

func TestNoTangentP131(t *testing.T) {
	for _, alpha := range []float64{minAlpha, 0.25, 0.5, 1} {
		for _, out := range append(noDirection(alpha), nearlyUp(alpha)...) {
			for _, u1 := range anyTurns() {
				for _, u2 := range anyTurns() {
					drawFails(t, drawn{out, single(alpha), u1, u2}, api.ErrZero)
				}
			}
		}
	}
}

// The sum of what is drawn may have no length, either, if it is wide.
func TestNoNormalP131(t *testing.T) {
	for _, x := range []drawn{
		{box(iv(-1, -0.5), iv(-1, -0.5), iv(0, 1)), iv(minAlpha, 1), 3 << 62, 0},
		{box(iv(0.25, 1), iv(-0.5, 0.5), iv(0, 1)), single(1), half, 1 << 61},
		{box(iv(0.5, 1), iv(0.5, 1), iv(0, 0.25)), iv(0.5, 1), 1 << 62, 3 << 62},
	} {
		drawFails(t, x, api.ErrZero)
	}
}

// What is next to having no length, or no tangent, has a normal.
func TestNearlyNothingP131(t *testing.T) {
	for _, alpha := range []float64{minAlpha, 0.25, 0.5, 1} {
		along := power(-537) / alpha
		for _, out := range []api.Vec{
			at(along, 0, 0), at(0, -along, 0), at(0, 0, power(-537)), at(-along, along, power(-537)), box(single(0), single(0), iv(power(-537), 1)),
			at(above(above(along)), 0, 1), at(0, -above(above(along)), 1), box(single(0), single(0), iv(0.25, 1)),
		} {
			n, err := drawn{out, single(alpha), 1 << 62, 1 << 61}.normal()
			if err != api.OK || n.Z.Hi <= 0 {
				t.Errorf("Draw(%v, %v): %v, %d", out, alpha, n, err)
			}
		}
	}
}

// Of three such directions, along the surface, straight up and next to that, the ends were worked out apart, too.
func TestKnownNearlyNothingP131(t *testing.T) {
	for _, x := range []struct {
		out  api.Vec
		want api.Vec
	}{
		{at(power(-536), 0, 0), box(iv(0x1.cf3ae0a017831p-2, 0x1.cf3ae0a017845p-2), iv(0x1.e323b3630ee37p-3, 0x1.e323b3630ee48p-3), iv(0x1.b85a00e6ed469p-1, 0x1.b85a00e6ed479p-1))},
		{at(0, 0, power(-537)), box(iv(0x1.91a5561517617p-3, 0x1.91a5561517621p-3), iv(0x1.91a5561517617p-3, 0x1.91a5561517621p-3), iv(0x1.ebe9e77d23f69p-1, 0x1.ebe9e77d23f75p-1))},
		{at(0x1.0000000000002p-536, 0, 1), box(iv(-0x1.99999999999a4p-3, -0x1.1c01aa03be88ep-3), iv(0x1.1c01aa03be89p-3, 0x1.99999999999a1p-3), iv(0x1.ebe9e77d23f64p-1, 0x1.f5a7cecdb6855p-1))},
	} {
		checkDraw(t, drawn{x.out, single(0.5), 1 << 62, 1 << 61}, x.want, api.OK)
	}
}

// The density divides by a cosine, as what is visible does: where that is not told, the error is that of G1.
func TestErrorsOfVisibilityP132(t *testing.T) {
	seen := func(cos api.Iv) asked { return asked{box(single(0.5), single(0), cos), up(), single(0.5)} }
	for _, zero := range []api.Iv{single(0), iv(0, 1), single(tiny), iv(power(-600), 0.25), single(below(power(-537)))} {
		densityFails(t, seen(zero), api.ErrZero)
	}
	for _, over := range []api.Iv{single(power(-537)), iv(power(-537), 1), single(power(-520)), single(power(-512)), iv(power(-512), 0.5), single(above(power(-512)))} {
		densityFails(t, seen(over), api.ErrOver)
	}
	for _, told := range []api.Iv{single(above(above(power(-512)))), iv(above(above(power(-512))), 1), single(power(-500)), iv(0.5, 1), single(1)} {
		if d, err := seen(told).density(); err != api.OK || d.Hi <= 0 {
			t.Errorf("Density for the cosine %v: %v, %d", told, d, err)
		}
	}
}

// A normal along the surface is one, too; and there is a density for a normal that has no length.
func TestAnyNormalP132(t *testing.T) {
	for _, normal := range []api.Vec{at(1, 0, 0), at(0, -1, 0), at(0, 0, 0), at(-1, 1, 1), at(0, 0, tiny), box(iv(-1, 1), iv(-1, 1), iv(0, 1))} {
		if d, err := (asked{at(0.6, 0, 0.8), normal, single(0.5)}).density(); err != api.OK || d.Lo < 0 {
			t.Errorf("Density of %v: %v, %d", normal, d, err)
		}
	}
}
