package unit_test

import (
	"math/big"
	"math/rand/v2"
	"slices"
	"testing"

	"burnish/api"
	"burnish/unit"
)

func TestEndsOfDrawsP34(t *testing.T) {
	for _, u := range manyDraws(4) {
		a := unit.Of(u)
		if a.Lo < 0 || a.Hi > 1 || a.Lo > a.Hi {
			t.Fatalf("Of(%d) is %v", u, a)
		}
		// From -64 to -1 no exponent is too small: so it is a number if it has 53 digits at most.
		if number := integer(u).BitLen()-int(integer(u).TrailingZeroBits()) <= 53; number != (a.Lo == a.Hi) {
			t.Fatalf("Of(%d) is %v; a number: %t", u, a, number)
		}
	}
}

// The last draw below a weight is the one ahead of its bound; as no side comes back (see grows), as many draws are below as the bound tells.
func TestDrawsNextToBoundsP34(t *testing.T) {
	eachSplit(2000, func(u uint64, w float64, b *big.Int) {
		if b.IsUint64() {
			if below, left, err := unit.Split(b.Uint64(), w); below || left != 0 || err != api.OK {
				t.Fatalf("the bound %d of %g: %t, %d, %d", b, w, below, left, err)
			}
		}
		before := new(big.Int).Sub(b, big.NewInt(1))
		if before.Sign() < 0 {
			return
		}
		if below, _, err := unit.Split(before.Uint64(), w); !below || err != api.OK {
			t.Fatalf("before the bound %d of %g: %t, %d", b, w, below, err)
		}
	})
}

// grows reports whether what is left grows with the draw on each side, and no draw is below behind one that is not.
func grows(draws []uint64, split func(u uint64) (bool, uint64)) bool {
	for i, u := range draws[1:] {
		below, left := split(draws[i])
		nextBelow, nextLeft := split(u)
		if nextBelow && !below || nextBelow == below && nextLeft <= left {
			return false
		}
	}
	return true
}

func TestWhatIsLeftGrowsP34(t *testing.T) {
	r := rand.New(rand.NewPCG(9, 10))
	l := weights()
	for range 500 {
		l = append(l, anyWeight(r))
	}
	some := draws()
	for range 100 {
		some = append(some, anyDraw(r), r.Uint64())
	}
	for _, w := range l {
		ordered := append(around(r, boundOf(w)), some...)
		slices.Sort(ordered)
		ordered = slices.Compact(ordered)
		if !grows(ordered, func(u uint64) (bool, uint64) { below, left, _ := unit.Split(u, w); return below, left }) {
			t.Fatalf("what is left of draws split by %g does not grow", w)
		}
		if !grows(ordered, unit.Half) {
			t.Fatalf("what is left of half the draws does not grow")
		}
	}
}

func TestFirstAndLastOfEachSideP34(t *testing.T) {
	least := func(w float64, first uint64, below bool) {
		if side, left, _ := unit.Split(first, w); side != below || left != 0 {
			t.Errorf("the first draw %d on its side of %g: %t, %d", first, w, side, left)
		}
	}
	greatest := func(w float64, end uint64, size *big.Int) {
		// The last draw of a side leaves what ends where 2^64 does.
		want := new(big.Int).Quo(two64, size)
		_, left, _ := unit.Split(end, w)
		_, rest, _ := unit.Split(end-1, w)
		if gap := new(big.Int).Sub(two64, integer(left)); gap.Cmp(want) < 0 || new(big.Int).Sub(gap, want).Cmp(big.NewInt(1)) > 0 || size.Cmp(big.NewInt(1)) > 0 && rest >= left {
			t.Errorf("the last draw %d on its side of %g: %d, ahead of it %d", end, w, left, rest)
		}
	}
	for _, w := range weights() {
		b := boundOf(w)
		if b.Sign() > 0 {
			least(w, 0, true)
			greatest(w, new(big.Int).Sub(b, big.NewInt(1)).Uint64(), b)
		}
		if b.IsUint64() {
			least(w, b.Uint64(), false)
			greatest(w, last, new(big.Int).Sub(two64, b))
		}
	}
}

func TestHalfIsASplitP34(t *testing.T) {
	for _, u := range draws() {
		below, left := unit.Half(u)
		if side, rest, err := unit.Split(u, 0.5); side != below || rest != left || err != api.OK {
			t.Errorf("Half(%d): %t, %d; split by one half %t, %d, %d", u, below, left, side, rest, err)
		}
	}
}
