package micro_test

import (
	"math"
	"slices"
	"testing"

	"burnish/api"
	"burnish/ggx"
	"burnish/micro"
)

const (
	top  = math.MaxFloat64
	tiny = math.SmallestNonzeroFloat64

	minAlpha = 0.03125
)

func power(e int) float64 { return math.Ldexp(1, e) }

func above(x float64) float64 { return math.Nextafter(x, top) }

func below(x float64) float64 { return math.Nextafter(x, -top) }

func iv(lo, hi float64) api.Iv { return api.Iv{Lo: lo, Hi: hi} }

func single(x float64) api.Iv { return iv(x, x) }

func at(x, y, z float64) api.Vec { return api.Vec{X: single(x), Y: single(y), Z: single(z)} }

func box(x, y, z api.Iv) api.Vec { return api.Vec{X: x, Y: y, Z: z} }

// same reports whether two intervals have the same bits, so that -0 is not 0.
func same(a, b api.Iv) bool {
	return math.Float64bits(a.Lo) == math.Float64bits(b.Lo) && math.Float64bits(a.Hi) == math.Float64bits(b.Hi)
}

func sameGloss(a, b api.Gloss) bool {
	return same(a.Lean, b.Lean) && same(a.Half, b.Half) && same(a.Value, b.Value) && same(a.Density, b.Density)
}

// arguments is all that Look is given: X, Y and Z of in, those of out, and alpha. Half is given all but the last.
type arguments [7]api.Iv

const alphaAt = 6

func given(in, out api.Vec, alpha api.Iv) arguments {
	return arguments{in.X, in.Y, in.Z, out.X, out.Y, out.Z, alpha}
}

func (x arguments) with(place int, a api.Iv) arguments {
	x[place] = a
	return x
}

func (x arguments) in() api.Vec { return box(x[0], x[1], x[2]) }

func (x arguments) out() api.Vec { return box(x[3], x[4], x[5]) }

func (x arguments) alpha() api.Iv { return x[alphaAt] }

func (x arguments) exchanged() arguments { return given(x.out(), x.in(), x.alpha()) }

func (x arguments) half() (lean, half api.Iv, err api.Errno) { return micro.Half(x.in(), x.out()) }

func (x arguments) look() (api.Gloss, api.Errno) { return micro.Look(x.in(), x.out(), x.alpha()) }

func checkHalf(t *testing.T, x arguments, lean, half api.Iv, err api.Errno) {
	t.Helper()
	if l, h, e := x.half(); !same(l, lean) || !same(h, half) || e != err {
		t.Errorf("Half(%v, %v): %x, %x, %d; want %x, %x, %d", x.in(), x.out(), l, h, e, lean, half, err)
	}
}

func checkLook(t *testing.T, x arguments, want api.Gloss, err api.Errno) {
	t.Helper()
	if got, e := x.look(); !sameGloss(got, want) || e != err {
		t.Errorf("Look(%v, %v, %v): %x, %d; want %x, %d", x.in(), x.out(), x.alpha(), got, e, want, err)
	}
}

func halfFails(t *testing.T, x arguments, err api.Errno) {
	t.Helper()
	checkHalf(t, x, api.Iv{}, api.Iv{}, err)
}

func lookFails(t *testing.T, x arguments, err api.Errno) {
	t.Helper()
	checkLook(t, x, api.Gloss{}, err)
}

// straightUp is what has no error, whatever else is within the limits in one place.
func straightUp() arguments { return given(at(0, 0, 1), at(0, 0, 1), single(0.5)) }

// opposite has no half vector, and is seen from the side: that is ErrZero for both functions.
func opposite() arguments { return given(at(1, 0, 0), at(-1, 0, 0), single(0.5)) }

func TestExamplesP101(t *testing.T) {
	checkHalf(t, straightUp(), single(1), single(1), api.OK)
	halfFails(t, opposite(), api.ErrZero)
}

func TestExamplesP102(t *testing.T) {
	part := iv(0x1.45f306dc9c882p-2, 0x1.45f306dc9c883p-2) // 1 / pi
	checkLook(t, straightUp(), api.Gloss{Lean: single(1), Half: single(1), Value: part, Density: part}, api.OK)
	lookFails(t, opposite(), api.ErrZero)
}

// All known ends were worked out by the chapters' formulas with fractions, apart from this program.
func TestKnownEndsP101(t *testing.T) {
	for _, x := range []struct {
		in, out    api.Vec
		lean, half api.Iv
	}{
		{at(0.6, 0, 0.8), at(-0.6, 0, 0.8), iv(0x1.ffffffffffffep-1, 1), iv(0x1.9999999999999p-1, 0x1.999999999999bp-1)},
		{at(0, 0.6, 0.8), at(0, 0.6, 0.8), iv(0x1.9999999999998p-1, 0x1.999999999999bp-1), iv(0x1.fffffffffffffp-1, 1)},
		{at(1, 0, 0), at(1, 0, 0), single(0), single(1)},
		{at(0, -1, 0), at(0, -1, 0), single(0), single(1)},
		{at(1, 0, 0), at(0, 1, 0), single(0), iv(0x1.6a09e667f3bccp-1, 0x1.6a09e667f3bcdp-1)},
		{at(1, 0, 0), at(0, 0, 1), iv(0x1.6a09e667f3bccp-1, 0x1.6a09e667f3bcep-1), iv(0x1.6a09e667f3bccp-1, 0x1.6a09e667f3bcdp-1)},
		{at(-1, 0, 0), at(0, 1, 0.25), iv(0x1.6482d37a5a3dp-3, 0x1.6482d37a5a3d2p-3), iv(0x1.6fa6ea162d0fp-1, 0x1.6fa6ea162d0f1p-1)},
		{at(0.1, 0.2, 0.3), at(0.4, -0.5, 0.6), iv(0x1.adb2be428f0e8p-1, 0x1.adb2be428f0edp-1), iv(0x1.128787c6f7d79p-1, 0x1.128787c6f7d7bp-1)},
		{at(-0.7, 0.1, 0.2), at(0.3, 0.9, 0), iv(0x1.75e9746a0b095p-3, 0x1.75e9746a0b09bp-3), iv(0x1.186f174f88471p-1, 0x1.186f174f88475p-1)},
		{at(0, 0, 0), at(0, 0, 1), single(1), single(0.5)},
		{at(0, 0, 0.25), at(0, 0, 0.5), single(1), single(0.375)},
		{at(0.5, -0.5, 1), at(0.5, 0.5, 0), iv(0x1.6a09e667f3bccp-1, 0x1.6a09e667f3bcep-1), iv(0x1.6a09e667f3bccp-1, 0x1.6a09e667f3bcdp-1)},
		{at(0.9, 0, power(-30)), at(-0.9, 0, power(-40)), single(1), single(0x1.004p-31)},
		{at(power(-530), power(-533), power(-531)), at(0, 0, power(-536)), iv(0x1.d26b17b5bde07p-2, 0x1.d26b17b5bde09p-2), iv(0x1.21ccc846f3b41p-531, 0x1.21ccc846f3b42p-531)},
		{box(iv(0.25, 0.5), single(0), single(0.5)), at(0, 0, 1), iv(0x1.e5b9d136c6d95p-1, 0x1.f9089fd7aa129p-1), iv(0x1.854bfb363dc39p-1, 0x1.94c583ada5b53p-1)},
		{box(iv(0.5, 0.625), iv(-0.25, 0.25), iv(0.75, 0.8)), box(iv(-0.5, -0.375), iv(0.125, 0.25), iv(0.5, 0.75)), iv(0x1.846a068f18ff6p-1, 1), iv(0.625, 0x1.a5d15a1129fefp-1)},
		{box(iv(-1, 1), iv(-1, 1), iv(0.5, 1)), box(iv(-1, 1), iv(-1, 1), iv(0.25, 1)), iv(0x1.bb67ae8584ca9p-3, 1), iv(0.375, 1)},
		{box(iv(0.75, 1), iv(0.75, 1), iv(0, 1)), box(iv(0.75, 1), iv(0.5, 1), iv(0, 1)), iv(0, 1), iv(0x1.f3db2174e7468p-1, 1)},
		{box(iv(-0.3, -0.2), iv(0.1, 0.2), iv(0.9, 0.95)), box(iv(-0.1, 0.1), single(0), iv(0.99, 1)), iv(0x1.e3b059d6d8d55p-1, 1), iv(0x1.e5314eac45af8p-1, 1)},
	} {
		checkHalf(t, given(x.in, x.out, api.Iv{}), x.lean, x.half, api.OK)
		checkHalf(t, given(x.out, x.in, api.Iv{}), x.lean, x.half, api.OK)
	}
}

// What is no unit vector may have a half vector that is longer than 1, as a whole: then half is 1 to 1.
func TestClampedP101(t *testing.T) {
	for _, x := range []struct {
		in, out    api.Vec
		lean, half api.Iv
	}{
		{at(1, 1, 1), at(1, 1, 1), iv(0x1.279a74590331bp-1, 0x1.279a74590331dp-1), single(1)},
		{at(1, 1, 1), at(1, 0.5, 0.25), iv(0x1.c9f25c5bfedd8p-2, 0x1.c9f25c5bfeddbp-2), single(1)},
		{at(-1, 1, 0), at(-1, 1, 0), single(0), single(1)},
		{at(-1, -1, 1), at(-1, -1, 1), iv(0x1.279a74590331bp-1, 0x1.279a74590331dp-1), single(1)},
	} {
		checkHalf(t, given(x.in, x.out, api.Iv{}), x.lean, x.half, api.OK)
	}
}

func TestKnownEndsP102(t *testing.T) {
	for _, x := range []struct {
		in, out                         api.Vec
		alpha, lean, half, value, dense api.Iv
	}{
		{at(0, 0, 1), at(0, 0, 1), single(minAlpha), single(1), single(1), iv(0x1.45f306dc9c882p+6, 0x1.45f306dc9c883p+6), iv(0x1.45f306dc9c882p+6, 0x1.45f306dc9c883p+6)},
		{at(0, 0, 1), at(0, 0, 1), single(1), single(1), single(1), iv(0x1.45f306dc9c882p-4, 0x1.45f306dc9c883p-4), iv(0x1.45f306dc9c882p-4, 0x1.45f306dc9c883p-4)},
		{at(0.6, 0, 0.8), at(-0.6, 0, 0.8), single(1), iv(0x1.ffffffffffffep-1, 1), iv(0x1.9999999999999p-1, 0x1.999999999999bp-1), iv(0x1.976fc893c3aap-4, 0x1.976fc893c3aa8p-4), iv(0x1.6a2a7966e6dp-4, 0x1.6a2a7966e6d06p-4)},
		{at(0.6, 0, 0.8), at(-0.6, 0, 0.8), single(0.3), iv(0x1.ffffffffffffep-1, 1), iv(0x1.9999999999999p-1, 0x1.999999999999bp-1), iv(0x1.590d26658d0ecp+0, 0x1.590d26658d14p+0), iv(0x1.1772f237b214ep+0, 0x1.1772f237b219p+0)},
		{at(0, 0.6, 0.8), at(0, 0.6, 0.8), single(0.3), iv(0x1.9999999999998p-1, 0x1.999999999999bp-1), iv(0x1.fffffffffffffp-1, 1), iv(0x1.006deb86d3afp-4, 0x1.006deb86d3b09p-4), iv(0x1.9f5a2e7b924bp-5, 0x1.9f5a2e7b924d6p-5)},
		{at(0.48, 0.64, 0.6), at(-0.6, 0, 0.8), single(0.5), iv(0x1.d03e12b77dd6cp-1, 0x1.d03e12b77dd72p-1), iv(0x1.8b44f1374af5ep-1, 0x1.8b44f1374af61p-1), iv(0x1.fcd4288c7890fp-3, 0x1.fcd4288c7895p-3), iv(0x1.4f18a4a396dd7p-3, 0x1.4f18a4a396ep-3)},
		{at(-0.6, 0, 0.8), at(0.48, 0.64, 0.6), single(0.5), iv(0x1.d03e12b77dd6cp-1, 0x1.d03e12b77dd72p-1), iv(0x1.8b44f1374af5ep-1, 0x1.8b44f1374af61p-1), iv(0x1.fcd4288c7890fp-3, 0x1.fcd4288c7895p-3), iv(0x1.a3a26ba1d594bp-3, 0x1.a3a26ba1d597fp-3)},
		{at(0.1, 0.2, 0.3), at(0.4, -0.5, 0.6), single(0.7), iv(0x1.adb2be428f0e8p-1, 0x1.adb2be428f0edp-1), iv(0x1.128787c6f7d79p-1, 0x1.128787c6f7d7bp-1), iv(0x1.1bbd1c86bc63bp-2, 0x1.1bbd1c86bc64fp-2), iv(0x1.11c97628ded91p-3, 0x1.11c97628deda3p-3)},
		{at(0.4, -0.5, 0.6), at(0.1, 0.2, 0.3), single(0.7), iv(0x1.adb2be428f0e8p-1, 0x1.adb2be428f0edp-1), iv(0x1.128787c6f7d79p-1, 0x1.128787c6f7d7bp-1), iv(0x1.1bbd1c86bc63bp-2, 0x1.1bbd1c86bc64fp-2), iv(0x1.78e5bebb030e9p-3, 0x1.78e5bebb03101p-3)},
		{at(0.8, 0, 0.6), at(0, 0.96, 0.28), single(0.1), iv(0x1.26cad7a8d4f14p-1, 0x1.26cad7a8d4f17p-1), iv(0x1.874514ee0cab5p-1, 0x1.874514ee0cab7p-1), iv(0x1.4cebd13160928p-7, 0x1.4cebd1316093cp-7), iv(0x1.91395b141e388p-8, 0x1.91395b141e39cp-8)},
		{at(0, 0.96, 0.28), at(0.8, 0, 0.6), single(0.1), iv(0x1.26cad7a8d4f14p-1, 0x1.26cad7a8d4f17p-1), iv(0x1.874514ee0cab5p-1, 0x1.874514ee0cab7p-1), iv(0x1.4cebd13160928p-7, 0x1.4cebd1316093cp-7), iv(0x1.7f7a6e3e78bcap-9, 0x1.7f7a6e3e78bdep-9)},
		{at(1, 1, 1), at(1, 0.5, 0.25), single(0.9), iv(0x1.c9f25c5bfedd8p-2, 0x1.c9f25c5bfeddbp-2), single(1), iv(0x1.ed55babed9fcdp-4, 0x1.ed55babed9fd8p-4), iv(0x1.ed55babed9fcdp-4, 0x1.ed55babed9fd8p-4)},
		{at(-0.7, 0.1, 0.2), at(0.3, 0.9, 0.01), single(minAlpha), iv(0x1.87f0440f01956p-3, 0x1.87f0440f0195ep-3), iv(0x1.18e9a12cf319ep-1, 0x1.18e9a12cf31a2p-1), iv(0x1.3f91f7c2f3993p-6, 0x1.3f91f7c2f39ap-6), iv(0x1.005a18517a714p-8, 0x1.005a18517a71cp-8)},
		{at(1, 0, power(-30)), at(-1, 0, power(-40)), single(0.25), single(1), single(0x1.004p-31), iv(0x1.45a19e74ff482p+33, 0x1.45a19e74ff488p+33), iv(0x1.45f306dc97703p+3, 0x1.45f306dc97709p+3)},
		{at(1, 0, power(-511)), at(1, 0, power(-500)), single(0.5), iv(0x1.001fffffffffep-501, 0x1.002p-501), single(1), iv(0x1.45ca4d92ea2a9p+496, 0x1.45ca4d92ea2b4p+496), iv(0x1.45f306dc9c87fp-4, 0x1.45f306dc9c888p-4)},
		{at(0, 0, power(-511)), at(0, 0, power(-511)), single(minAlpha), single(1), single(power(-511)), iv(0x1.45f306dc9c87fp+522, 0x1.45f306dc9c886p+522), iv(0x1.45f306dc9c87fp+12, 0x1.45f306dc9c886p+12)},
		{at(0.6, 0, 0.8), at(-0.6, 0, 0.8), iv(0.25, 0.5), iv(0x1.ffffffffffffep-1, 1), iv(0x1.9999999999999p-1, 0x1.999999999999bp-1), iv(0x1.dcde5843b0c0ap-4, 0x1.f4929c187a251p+2), iv(0x1.8a0a0adde9a4fp-4, 0x1.93ead1e3e2b2cp+2)},
		{box(iv(0.5, 0.625), iv(-0.25, 0.25), iv(0.75, 0.8)), box(iv(-0.5, -0.375), iv(0.125, 0.25), iv(0.5, 0.75)), single(0.5), iv(0x1.846a068f18ff6p-1, 1), iv(0.625, 0x1.a5d15a1129fefp-1), iv(0x1.5c0e371dbbfa1p-4, 0x1.923cd94500b1cp-1), iv(0x1.2194c76febe29p-4, 0x1.377ae62207e62p-1)},
		{box(iv(-1, 1), iv(-1, 1), iv(0.5, 1)), box(iv(-1, 1), iv(-1, 1), iv(0.25, 1)), iv(minAlpha, 1), iv(0x1.bb67ae8584ca9p-3, 1), iv(0.375, 1), iv(0x1.b2995e7b7b602p-16, 0x1.45f306dc9c883p+19), iv(0x1.04c26be3b06cep-15, 0x1.45f306dc9c883p+18)},
		{box(iv(0.75, 1), iv(0.75, 1), iv(0.0625, 0.125)), box(iv(0.75, 1), iv(0.5, 1), iv(0.25, 0.5)), iv(0.4, 0.5), iv(0x1.b9e37c5e2018cp-4, 0x1.43a7cb4046f67p-2), iv(0x1.fa37a3e5bbca1p-1, 1), iv(0x1.4c29c75211a8ap-5, 0x1.55cf6a7543dcp-1), iv(0x1.0b165e609ebe8p-6, 0x1.5e7454c45fc94p-4)},
		{box(iv(-0.3, -0.2), iv(0.1, 0.2), iv(0.9, 0.95)), box(iv(-0.1, 0.1), single(0), iv(0.99, 1)), single(0.2), iv(0x1.e3b059d6d8d55p-1, 1), iv(0x1.e5314eac45af8p-1, 1), iv(0x1.4da381ad0d42cp-3, 0x1.1d7df593e6203p+1), iv(0x1.3db2c7653033p-3, 0x1.01385921cf923p+1)},
	} {
		checkLook(t, given(x.in, x.out, x.alpha), api.Gloss{Lean: x.lean, Half: x.half, Value: x.value, Density: x.dense}, api.OK)
	}
}

// noLength is directions whose sum may be 0, or so short that its square may be rounded to 0.
func noLength() []arguments {
	short := below(power(-537))
	var l []arguments
	for _, x := range [][2]api.Vec{
		{at(0, 0, 0), at(0, 0, 0)},
		{at(1, 0, 0), at(-1, 0, 0)},
		{at(0, -1, 0), at(0, 1, 0)},
		{at(0.6, -0.8, 0), at(-0.6, 0.8, 0)},
		{at(short, 0, 0), at(0, 0, 0)},
		{at(0, -short, 0), at(0, 0, 0)},
		{at(0, 0, short), at(0, 0, 0)},
		{at(short, short, short), at(0, 0, 0)},
		{at(power(-538), 0, 0), at(below(power(-538)), 0, 0)},
		{at(0, 0, tiny), at(0, 0, tiny)},
		{box(iv(-1, 1), single(0), iv(0, 1)), box(iv(-1, 1), single(0), iv(0, 1))},
		{box(iv(-1, 1), iv(-1, 1), iv(0, 1)), at(0.6, 0.8, 0)},
		{box(iv(0.5, 0.75), iv(-0.25, 0), iv(0, 0.5)), box(iv(-0.625, -0.5), iv(0, 0.25), iv(0, 0.5))},
		{box(single(1), iv(0, 1), iv(0, 1)), box(iv(-1, 1), iv(-1, 0), iv(0, 1))},
		{box(single(0), single(0), iv(short, 1)), box(single(0), single(0), iv(0, 1))},
	} {
		l = append(l, given(x[0], x[1], single(0.5)), given(x[1], x[0], single(0.5)))
	}
	return l
}

func TestNoLengthP101(t *testing.T) {
	for _, x := range noLength() {
		halfFails(t, x, api.ErrZero)
	}
}

func TestNoLengthP102(t *testing.T) {
	for _, x := range noLength() {
		for _, alpha := range []api.Iv{single(0.5), single(1), iv(minAlpha, 1)} {
			lookFails(t, x.with(alphaAt, alpha), api.ErrZero)
		}
	}
}

// What is next to having no length has one.
func TestShortestP101(t *testing.T) {
	short := power(-537)
	for _, x := range []struct {
		in, out    api.Vec
		lean, half api.Iv
	}{
		{at(short, 0, 0), at(0, 0, 0), single(0), single(power(-538))},
		{at(0, -short, 0), at(0, 0, 0), single(0), single(power(-538))},
		{at(0, 0, short), at(0, 0, 0), single(1), single(power(-538))},
		{at(power(-538), 0, 0), at(power(-538), 0, 0), single(0), single(power(-538))},
		{at(power(-538), power(-538), power(-538)), at(power(-538), power(-538), power(-538)), iv(0x1.279a74590331bp-1, 0x1.279a74590331dp-1), iv(0x1.bb67ae8584caap-538, 0x1.bb67ae8584cabp-538)},
		{box(iv(-1, 1), iv(-1, 1), iv(0, 1)), box(iv(-1, 1), iv(-1, 1), iv(short, 1)), iv(0x1.279a74590331bp-539, 1), iv(power(-538), 1)},
		{box(iv(short, 1), single(0), single(0)), box(iv(0, 1), iv(-1, 1), iv(0, 1)), iv(0, 1), iv(power(-538), 1)},
	} {
		checkHalf(t, given(x.in, x.out, api.Iv{}), x.lean, x.half, api.OK)
		checkHalf(t, given(x.out, x.in, api.Iv{}), x.lean, x.half, api.OK)
	}
}

// heights is two cosines, for directions that lie on different sides, so that their sum is long.
func heights(in, out api.Iv) arguments {
	return given(box(single(1), single(0), in), box(single(0), single(1), out), single(0.5))
}

// What cannot be seen is an error of G2, that of in ahead of that of out; with that of G1, which is of out alone, ErrZero would come first.
func TestErrorsOfVisibilityP102(t *testing.T) {
	zeros := []api.Iv{single(0), iv(0, 1), single(tiny), iv(power(-600), 0.25), single(below(power(-537)))}
	overs := []api.Iv{single(power(-537)), iv(power(-537), 1), single(power(-520)), single(power(-512)), iv(power(-512), 0.5), single(above(power(-512)))}
	seen := []api.Iv{single(above(above(power(-512)))), single(0.5), iv(0.5, 1), single(1)}
	for _, zero := range zeros {
		for _, other := range slices.Concat(zeros, seen, overs) {
			lookFails(t, heights(zero, other), api.ErrZero)
		}
		for _, other := range seen {
			lookFails(t, heights(other, zero), api.ErrZero)
		}
	}
	for _, over := range overs {
		for _, other := range slices.Concat(zeros, seen, overs) {
			lookFails(t, heights(over, other), api.ErrOver)
		}
		for _, other := range seen {
			lookFails(t, heights(other, over), api.ErrOver)
		}
	}
	for _, in := range seen {
		for _, out := range seen {
			if g, err := heights(in, out).look(); err != api.OK || g.Value.Lo <= 0 || g.Density.Lo <= 0 {
				t.Errorf("with the cosines %v and %v: %v, %d", in, out, g, err)
			}
		}
	}
}

// Where all parts have no error the value may still be too great, if both cosines reach down near 0 while a part stays that is seen whole; the bounds were worked out with fractions, too.
func TestErrorOfTheValueP102(t *testing.T) {
	for _, x := range []struct{ alpha, least float64 }{{0.25, 0x1.20dd750429b6ep-512}, {0.125, 0x1.20dd750429b6ep-511}, {minAlpha, 0x1.20dd750429b6ep-509}} {
		rising := func(least float64) arguments {
			up := box(single(0), single(0), iv(least, 1))
			return given(up, up, single(x.alpha))
		}
		beyond := rising(below(x.least))
		lookFails(t, beyond, api.ErrOver)
		if _, err := ggx.G2(beyond[2], beyond[5], beyond.alpha()); err != api.OK {
			t.Errorf("G2(%v, %v, %v): %d", beyond[2], beyond[5], beyond.alpha(), err)
		}
		if g, err := rising(x.least).look(); err != api.OK || g.Value.Hi < power(1023) {
			t.Errorf("Look with %g and %g: %v, %d", x.alpha, x.least, g, err)
		}
	}
}

// limits is what is within the limits of a place, and what is beyond.
func limits(place int) (within, beyond []api.Iv) {
	low, high := -1.0, 1.0
	switch place {
	case 2, 5:
		low = 0
	case alphaAt:
		low = minAlpha
		beyond = []api.Iv{single(0), single(0.03), single(tiny), iv(0, 1)}
	}
	within = []api.Iv{
		single(low), single(above(low)), single(below(high)), single(high), iv(low, above(low)), iv(below(high), high), iv(low, high), single(0.5),
	}
	beyond = append(beyond,
		single(below(low)), single(above(high)), iv(below(low), low), iv(below(low), high), iv(high, above(high)), iv(low, above(high)),
		iv(below(low), above(high)), single(low-1), single(high+1), single(-top), single(top), iv(-top, top), iv(-top, low), iv(high, top),
	)
	return within, beyond
}

// others is arguments that are within all limits: without an error, and with one of the formulas.
func others() []arguments {
	return []arguments{straightUp(), opposite(), heights(single(power(-520)), single(0)), given(at(-1, 1, 1), at(1, -1, 0.5), iv(minAlpha, 1))}
}

func TestLimitsP101(t *testing.T) {
	for place := range alphaAt {
		within, beyond := limits(place)
		for _, a := range within {
			x := straightUp().with(place, a)
			if lean, half, err := x.half(); err != api.OK || lean.Lo < 0 || lean.Hi > 1 || half.Lo <= 0 || half.Hi > 1 {
				t.Errorf("Half(%v, %v): %v, %v, %d", x.in(), x.out(), lean, half, err)
			}
		}
		for _, a := range beyond {
			for _, other := range others() {
				halfFails(t, other.with(place, a), api.ErrArg)
			}
		}
	}
}

func TestLimitsP102(t *testing.T) {
	for place := range straightUp() {
		within, beyond := limits(place)
		for _, a := range within {
			x := straightUp().with(place, a)
			want := api.OK
			if (place == 2 || place == 5) && a.Lo <= tiny {
				want = api.ErrZero
			}
			if g, err := x.look(); err != want || (want == api.OK && g.Value.Lo <= 0) {
				t.Errorf("Look(%v, %v, %v): %v, %d", x.in(), x.out(), x.alpha(), g, err)
			}
		}
		for _, a := range beyond {
			for _, other := range others() {
				lookFails(t, other.with(place, a), api.ErrArg)
			}
		}
	}
}

// wrongOnes is what is not a right interval; most of them would be within the limits, if they were one.
func wrongOnes() []api.Iv {
	l := []api.Iv{iv(1, 0), iv(1, 0.5), iv(0.5, below(0.5)), iv(tiny, 0), iv(0, -tiny), iv(top, -top), iv(2, 1), iv(above(1), 1)}
	for _, bad := range []float64{
		math.NaN(), -math.NaN(), math.Float64frombits(0x7ff0000000000001), math.Float64frombits(math.MaxUint64),
		math.Inf(1), math.Inf(-1), math.Copysign(0, -1),
	} {
		l = append(l, single(bad), iv(bad, 1), iv(0, bad), iv(0.5, bad), iv(bad, 2), iv(-1, bad))
	}
	return l
}

// What is not right comes ahead of all that is beyond its limits, be it in a place ahead of it or behind, and of the formulas' errors.
func TestWrongOnesP101(t *testing.T) {
	for _, bad := range wrongOnes() {
		for place := range alphaAt {
			for _, other := range others() {
				wrong := other.with(place, bad)
				halfFails(t, wrong, api.ErrIv)
				for second := range alphaAt {
					if second != place {
						halfFails(t, wrong.with(second, single(2)), api.ErrIv)
					}
				}
			}
		}
	}
}

func TestWrongOnesP102(t *testing.T) {
	for _, bad := range wrongOnes() {
		for place := range straightUp() {
			for _, other := range others() {
				wrong := other.with(place, bad)
				lookFails(t, wrong, api.ErrIv)
				for second := range wrong {
					if second != place {
						lookFails(t, wrong.with(second, single(2)), api.ErrIv)
					}
				}
			}
		}
	}
}
