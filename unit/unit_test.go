package unit_test

import (
	"math"
	"testing"

	"burnish/api"
	"burnish/unit"
)

const (
	half = uint64(1) << 63
	last = uint64(math.MaxUint64)
)

func power(e int) float64 { return math.Ldexp(1, e) }

// same reports whether two intervals have the same bits, so that -0 is not 0.
func same(a, b api.Iv) bool {
	return math.Float64bits(a.Lo) == math.Float64bits(b.Lo) && math.Float64bits(a.Hi) == math.Float64bits(b.Hi)
}

// draws is those that the chapter names, or next to them: the first, the last, and around each power of 2, where numbers begin to be too few.
func draws() []uint64 {
	l := []uint64{0, 3, 5, 7, 3 << 62, 1<<63 + 5, last - 4096, last - 2048, last - 2047, last - 1024, last - 1023, last}
	for e := range 64 {
		l = append(l, 1<<e-1, 1<<e, 1<<e+1)
	}
	return l
}

func TestOfExamplesP31(t *testing.T) {
	for _, c := range []struct {
		u      uint64
		lo, hi float64
	}{
		{0, 0, 0}, {1, power(-64), power(-64)}, {2, power(-63), power(-63)}, {3, 3 * power(-64), 3 * power(-64)},
		{half, 0.5, 0.5}, {1 << 62, 0.25, 0.25}, {3 << 62, 0.75, 0.75}, {1 << 32, power(-32), power(-32)}, {1<<32 - 1, power(-32) - power(-64), power(-32) - power(-64)},
		{last, 1 - power(-53), 1}, {last - 2047, 1 - power(-53), 1 - power(-53)}, {last - 2046, 1 - power(-53), 1}, {last - 2048, 1 - power(-52), 1 - power(-53)},
		{half + 1, 0.5, 0.5 + power(-53)}, {half - 1, 0.5 - power(-54), 0.5}, {half + 2047, 0.5, 0.5 + power(-53)}, {half + 2048, 0.5 + power(-53), 0.5 + power(-53)},
		{1<<53 - 1, power(-11) - power(-64), power(-11) - power(-64)}, {1 << 53, power(-11), power(-11)}, {1<<53 + 1, power(-11), power(-11) + power(-63)},
		{1<<53 + 2, power(-11) + power(-63), power(-11) + power(-63)}, {1<<54 - 1, power(-10) - power(-63), power(-10)},
	} {
		if got := unit.Of(c.u); !same(got, api.Iv{Lo: c.lo, Hi: c.hi}) {
			t.Errorf("Of(%d): %v; want %g to %g", c.u, got, c.lo, c.hi)
		}
	}
}

func TestHalfExamplesP32(t *testing.T) {
	for _, c := range []struct {
		u     uint64
		below bool
		left  uint64
	}{
		{half + 5, false, 10}, {7, true, 14}, {0, true, 0}, {1, true, 2}, {half - 1, true, last - 1}, {half, false, 0}, {half + 1, false, 2}, {last, false, last - 1},
		{1 << 62, true, half}, {3 << 62, false, half},
	} {
		if below, left := unit.Half(c.u); below != c.below || left != c.left {
			t.Errorf("Half(%d): %t, %d; want %t, %d", c.u, below, left, c.below, c.left)
		}
	}
}

func TestSplitExamplesP33(t *testing.T) {
	third := last / 3 // of 2^64, rounded down
	for _, c := range []struct {
		name  string
		u     uint64
		w     float64
		below bool
		left  uint64
	}{
		{"below one half", 1 << 62, 0.5, true, half}, {"at one half", half, 0.5, false, 0}, {"the first below one half", 0, 0.5, true, 0},
		{"the last below one half", half - 1, 0.5, true, last - 1}, {"the last of one half", last, 0.5, false, last - 1},
		{"below three quarters", half, 0.75, true, 12297829382473034410}, {"the last below three quarters", 3<<62 - 1, 0.75, true, last - 1},
		{"at three quarters", 3 << 62, 0.75, false, 0}, {"the last of three quarters", last, 0.75, false, last - 3},
		{"at one quarter", 1 << 62, 0.25, false, 0}, {"beyond one quarter", 1<<62 + 1, 0.25, false, 1}, {"one half of one quarter", half, 0.25, false, third},
		{"the last below one quarter", 1<<62 - 1, 0.25, true, last - 3}, {"the last of one quarter", last, 0.25, false, last - 1},
		{"the first of 1", 0, 1, true, 0}, {"one of 1", 12345, 1, true, 12345}, {"one half of 1", half, 1, true, half}, {"the last of 1", last, 1, true, last},
		{"the first of 0", 0, 0, false, 0}, {"one of 0", 12345, 0, false, 12345}, {"one half of 0", half, 0, false, half}, {"the last of 0", last, 0, false, last},
		{"the first of next to nothing", 0, power(-1074), false, 0}, {"one of next to nothing", 5, power(-1074), false, 5}, {"the last of next to nothing", last, power(-1074), false, last},
		{"the first of less than a draw", 0, power(-64) - power(-117), false, 0}, {"the last of less than a draw", last, power(-65), false, last},
		{"the only one below 1 draw", 0, power(-64), true, 0}, {"at 1 draw", 1, power(-64), false, 0}, {"beyond 1 draw", 5, power(-64), false, 4}, {"the last of 1 draw", last, power(-64), false, last - 1},
		{"the only one below 2 draws less a fraction", 0, power(-63) - power(-116), true, 0}, {"at 2 draws less a fraction", 1, power(-63) - power(-116), false, 0},
		{"the first below 2 draws", 0, power(-63), true, 0}, {"the last below 2 draws", 1, power(-63), true, half}, {"at 2 draws", 2, power(-63), false, 0},
		{"the last below 2 draws and a half", 1, 2.5 * power(-64), true, half}, {"at 2 draws and a half", 2, 2.5 * power(-64), false, 0},
		{"the last below 3 draws", 2, 3 * power(-64), true, 2 * third}, {"at 3 draws", 3, 3 * power(-64), false, 0},
		{"the last below next to 1", last - 2048, 1 - power(-53), true, last - 1}, {"at next to 1", last - 2047, 1 - power(-53), false, 0},
		{"beyond next to 1", last - 2046, 1 - power(-53), false, 1 << 53}, {"the last of next to 1", last, 1 - power(-53), false, last - 1<<53 + 1},
	} {
		if below, left, err := unit.Split(c.u, c.w); below != c.below || left != c.left || err != api.OK {
			t.Errorf("%s: Split(%d, %g): %t, %d, %d; want %t, %d", c.name, c.u, c.w, below, left, err, c.below, c.left)
		}
	}
}

func TestSplitWrongWeightsP33(t *testing.T) {
	for _, w := range []float64{
		math.NaN(), -math.NaN(), math.Float64frombits(0x7ff0000000000001), math.Float64frombits(0xffffffffffffffff), math.Inf(1), math.Inf(-1), math.Copysign(0, -1),
		-power(-1074), -power(-1022), -0.5, -1, -math.MaxFloat64, 1 + power(-52), 1.5, 2, power(63), power(64), power(65), math.MaxFloat64,
	} {
		for _, u := range draws() {
			if below, left, err := unit.Split(u, w); below || left != 0 || err != api.ErrArg {
				t.Errorf("Split(%d, %g): %t, %d, %d", u, w, below, left, err)
			}
		}
	}
}
