package cosine_test

import (
	"math"
	"testing"

	"burnish/api"
	"burnish/cosine"
)

const (
	top  = math.MaxFloat64
	tiny = math.SmallestNonzeroFloat64
	half = uint64(1) << 63
	last = uint64(math.MaxUint64)
)

func power(e int) float64 { return math.Ldexp(1, e) }

func iv(lo, hi float64) api.Iv { return api.Iv{Lo: lo, Hi: hi} }

func single(x float64) api.Iv { return iv(x, x) }

func box(x, y, z api.Iv) api.Vec { return api.Vec{X: x, Y: y, Z: z} }

func above(x float64) float64 { return math.Nextafter(x, top) }

func below(x float64) float64 { return math.Nextafter(x, -top) }

func sameNumber(x, y float64) bool { return math.Float64bits(x) == math.Float64bits(y) }

// same reports whether two vectors have the same bits, so that -0 is not 0.
func same(a, b api.Vec) bool {
	each := func(x, y api.Iv) bool { return sameNumber(x.Lo, y.Lo) && sameNumber(x.Hi, y.Hi) }
	return each(a.X, b.X) && each(a.Y, b.Y) && each(a.Z, b.Z)
}

func checkDraw(t *testing.T, u1, u2 uint64, want api.Vec) {
	t.Helper()
	if got, err := cosine.Draw(u1, u2); !same(got, want) || err != api.OK {
		t.Errorf("Draw(%#x, %#x): %x, %d; want %x", u1, u2, got, err, want)
	}
}

func checkMid(t *testing.T, v api.Vec, want api.F3, err api.Errno) {
	t.Helper()
	got, e := cosine.Mid(v)
	if !sameNumber(got.X, want.X) || !sameNumber(got.Y, want.Y) || !sameNumber(got.Z, want.Z) || e != err {
		t.Errorf("Mid(%v): %x, %d; want %x, %d", v, got, e, want, err)
	}
}

func TestExamplesP121(t *testing.T) {
	checkDraw(t, 0, 0, box(single(0), single(0), single(1)))
	root := iv(0x1.6a09e667f3bccp-1, 0x1.6a09e667f3bcdp-1) // that of 0.5
	checkDraw(t, half, 0, box(root, single(0), root))
}

// The ends were worked out by the chapters' formulas with fractions, apart from this program.
func TestKnownEndsP121(t *testing.T) {
	low, high := 0x1.6a09e667f3bccp-1, 0x1.6a09e667f3bcdp-1 // next to the root of 0.5
	root, negative := iv(low, high), iv(-high, -low)
	diagonal := iv(0x1.6a09e667f3bcbp-2, 0x1.6a09e667f3bcep-2)
	for _, x := range []struct {
		u1, u2 uint64
		want   api.Vec
	}{
		{half, 1 << 62, box(single(0), root, root)},
		{half, half, box(negative, single(0), root)},
		{half, 3 << 62, box(single(0), negative, root)},
		{1 << 62, 1 << 61, box(diagonal, diagonal, iv(0x1.bb67ae8584caap-1, 0x1.bb67ae8584cabp-1))},
		{1 << 62, 3 << 61, box(iv(-diagonal.Hi, -diagonal.Lo), diagonal, iv(0x1.bb67ae8584caap-1, 0x1.bb67ae8584cabp-1))},
		{3 << 62, 1 << 61, box(iv(0x1.3988e1409212cp-1, 0x1.3988e14092131p-1), iv(0x1.3988e1409212cp-1, 0x1.3988e14092131p-1), single(0.5))},
		{1<<53 + 1, 7 << 61, box(iv(0x1.ffffffffffffcp-7, 0x1.0000000000003p-6), iv(-0x1.0000000000003p-6, -0x1.ffffffffffffcp-7), iv(0x1.ffdffeffeffebp-1, 0x1.ffdffeffeffecp-1))},
		{0xffe0000000000000, 0x3333333333333333, box(iv(0x1.3c5b2be58606ep-2, 0x1.3c5b2be586075p-2), iv(0x1.e6d27132aa622p-1, 0x1.e6d27132aa626p-1), iv(0x1.6a09e667f3bccp-6, 0x1.6a09e667f3bcdp-6))},
		{1000003, 0x5555555555555555, box(iv(-0x1.f4003126e70eep-24, -0x1.f4003126e70e1p-24), iv(0x1.b1036aff80ad2p-23, 0x1.b1036aff80ad8p-23), iv(0x1.fffffffffff0bp-1, 0x1.fffffffffff0cp-1))},
		{0xab54a98ceb1f0ad2, 0x891087b8e3b70cb1, box(iv(-0x1.988911016e326p-1, -0x1.988911016e321p-1), iv(-0x1.71ae1e4a01bc9p-3, -0x1.71ae1e4a01bafp-3), iv(0x1.26737036fea86p-1, 0x1.26737036fea88p-1))},
		{0x0123456789abcdef, 0xfedcba9876543210, box(iv(0x1.10f5cfcdb4aa8p-4, 0x1.10f5cfcdb4aabp-4), iv(-0x1.e7f74c0b7ffd0p-10, -0x1.e7f74c0b7fef1p-10), iv(0x1.fedc678f7baf8p-1, 0x1.fedc678f7bafap-1))},
	} {
		checkDraw(t, x.u1, x.u2, x.want)
	}
}

// The first draws, the last ones, and those next to the middle: most of them are no numbers, so that what is drawn is wider.
func TestEdgesP121(t *testing.T) {
	low, high := 0x1.6a09e667f3bccp-1, 0x1.6a09e667f3bcdp-1
	first := iv(below(power(-32)), power(-32))
	for _, x := range []struct {
		u1, u2 uint64
		want   api.Vec
	}{
		{0, half + 12345, box(single(0), single(0), single(1))},
		{0, last, box(single(0), single(0), single(1))},
		{1, 1, box(first, iv(0x1.921fb54442d17p-94, 0x1.921fb54442d19p-94), iv(below(1), 1))},
		{1, last, box(first, iv(-0x1.921fb54442d19p-83, 0), iv(below(1), 1))},
		{last, 0, box(iv(below(1), 1), single(0), iv(0, 0x1.6a09e667f3bcdp-27))},
		{last, last, box(iv(1-power(-52), 1), iv(-0x1.921fb54442d19p-51, 0), iv(0, 0x1.6a09e667f3bcdp-27))},
		{last - 2047, 5 << 61, box(iv(-0x1.6a09e667f3bcep-1, -0x1.6a09e667f3bcap-1), iv(-0x1.6a09e667f3bcep-1, -0x1.6a09e667f3bcap-1), iv(0x1.6a09e667f3bccp-27, 0x1.6a09e667f3bcdp-27))},
		{half + 1, 1<<62 + 1, box(iv(-0x1.1c5831add62e6p-52, 0), iv(below(low), above(high)), iv(below(low), high))},
		{half - 1, half - 1, box(iv(-high, -below(low)), iv(0, 0x1.1c5831add62e6p-52), iv(low, above(high)))},
	} {
		checkDraw(t, x.u1, x.u2, x.want)
	}
}

func TestExamplesP122(t *testing.T) {
	checkMid(t, box(iv(0, 1), single(2), iv(-1, 0)), api.F3{X: 0.5, Y: 2, Z: -0.5}, api.OK)
}

// What is rounded up, or is added in another order, is another number in most of these rows.
func TestRoundedDownP122(t *testing.T) {
	for _, x := range []struct {
		a    api.Iv
		want float64
	}{
		{single(0), 0}, {single(tiny), tiny}, {single(-tiny), -tiny}, {single(3), 3}, {single(top), top}, {single(-top), -top}, {iv(-1, 1), 0}, {iv(-3, 1), -1},
		{iv(-1, tiny), -0.5}, {iv(-1, power(-60)), -0.5}, {iv(-tiny, 1), 0.5 - power(-54)}, {iv(-power(-60), 1), 0.5 - power(-54)}, // the difference
		{iv(0, tiny), 0}, {iv(-tiny, 0), -tiny}, {iv(0, 3*tiny), tiny}, {iv(-3*tiny, 0), -2 * tiny}, {iv(-tiny, tiny), 0}, {iv(tiny, 2*tiny), tiny}, // the half
		{iv(1, above(1)), 1}, {iv(below(1), 1), below(1)}, {iv(1, 1+3*power(-52)), above(1)}, {iv(-above(1), -1), -above(1)}, {iv(-1-3*power(-52), -1), -1 - power(-51)}, // the sum
		{iv(0.1, 0.7), 0x1.9999999999998p-2}, {iv(0.1, 0.2), 0x1.3333333333333p-3}, {iv(-0.7, 0.1), -0x1.3333333333333p-2}, {iv(-0.1, 1), 0x1.ccccccccccccbp-2},
	} {
		other := iv(-2, 4)
		checkMid(t, box(x.a, other, other), api.F3{X: x.want, Y: 1, Z: 1}, api.OK)
		checkMid(t, box(other, x.a, other), api.F3{X: 1, Y: x.want, Z: 1}, api.OK)
		checkMid(t, box(other, other, x.a), api.F3{X: 1, Y: 1, Z: x.want}, api.OK)
	}
}

// A difference that is too great becomes the greatest number as it is rounded down: so there is never ErrOver.
func TestNothingIsTooGreatP122(t *testing.T) {
	for _, x := range []struct {
		a    api.Iv
		want float64
	}{
		{iv(-top, top), -top / 2}, {iv(-top, 0), -top / 2}, {iv(0, top), top / 2}, {iv(-top, below(top)), -top / 2}, {iv(-0x1.8p1023, 0x1.7ffffffffffffp1023), -0x1.0000000000001p1022},
		{iv(-top, -below(top)), -top}, {iv(below(top), top), below(top)}, {iv(-top, tiny), -top / 2}, {iv(-tiny, top), below(top / 2)}, {iv(-power(1023), power(1023)), -power(970)},
	} {
		checkMid(t, box(x.a, x.a, x.a), api.F3{X: x.want, Y: x.want, Z: x.want}, api.OK)
	}
}

// wrongOnes is what is not a right interval.
func wrongOnes() []api.Iv {
	l := []api.Iv{iv(1, 0), iv(0.5, 0.25), iv(tiny, 0), iv(0, -tiny), iv(top, -top), iv(2, 1), iv(above(1), 1)}
	for _, bad := range []float64{
		math.NaN(), -math.NaN(), math.Float64frombits(0x7ff0000000000001), math.Float64frombits(math.MaxUint64),
		math.Inf(1), math.Inf(-1), math.Copysign(0, -1),
	} {
		l = append(l, single(bad), iv(bad, 1), iv(0, bad), iv(bad, top), iv(-1, bad))
	}
	return l
}

func TestWrongOnesP122(t *testing.T) {
	others := append(wrongOnes(), single(0), iv(0, 1), iv(-top, top), single(top))
	for _, bad := range wrongOnes() {
		for _, other := range others {
			for _, v := range []api.Vec{box(bad, other, other), box(other, bad, other), box(other, other, bad)} {
				checkMid(t, v, api.F3{}, api.ErrIv)
			}
		}
	}
}
