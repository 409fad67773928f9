package pairs_test

import (
	"math"
	"testing"

	"burnish/api"
	"burnish/pairs"
)

// Where the numbers of a node lie.
const (
	rhoAt   = 0
	tintAt  = 3
	etaAt   = 6
	kAt     = 9
	sigmaAt = 12
	alphaAt = 13
	iorAt   = 14
	wAt     = 15
	endAt   = 16
)

// numbers returns all of n, each at its place.
func numbers(n *api.Node) []*float64 {
	var l []*float64
	for _, three := range []*[3]float64{&n.Rho, &n.Tint, &n.Eta, &n.K} {
		for i := range three {
			l = append(l, &three[i])
		}
	}
	return append(l, &n.Sigma, &n.Alpha, &n.Ior, &n.W)
}

func withNumber(n api.Node, place int, x float64) api.Node {
	*numbers(&n)[place] = x
	return n
}

// bounds returns the least and the greatest number that a kind may have in a place; false if it has none there.
func bounds(kind uint8, place int) (least, greatest float64, own bool) {
	lambert, oren, plastic, metal := kind == api.NodeLambert, kind == api.NodeOren, kind == api.NodePlastic, kind == api.NodeMetal
	switch {
	case place < tintAt:
		return 0, 1, lambert || oren
	case place == sigmaAt:
		return 0, 1, oren
	case place == alphaAt:
		return 0.03125, 1, plastic || metal
	case place == iorAt:
		return 1.0625, 4, plastic
	case etaAt <= place && place < sigmaAt:
		return 0.0625, 16, metal
	}
	return 0, 0, false
}

// rightNodes is each kind with each of its numbers at its limits and between them, and with -0 in each place that it does not have.
func rightNodes() []api.Node {
	var l []api.Node
	for _, n := range leaves() {
		for place := range endAt {
			least, greatest, own := bounds(n.Kind, place)
			if !own {
				l = append(l, withNumber(n, place, math.Copysign(0, -1)))
				continue
			}
			for _, x := range []float64{least, above(least), (least + greatest) / 2, below(greatest), greatest} {
				l = append(l, withNumber(n, place, x))
			}
		}
	}
	return l
}

// noNumbers is what is no number, or is beyond all limits.
func noNumbers() []float64 {
	return []float64{
		math.NaN(), -math.NaN(), math.Float64frombits(0x7ff0000000000001), math.Inf(1), math.Inf(-1), top, -top, -1, 17, -tiny, -power(-1022),
	}
}

// wrongNumbers is each kind with a wrong number in each place.
func wrongNumbers() []api.Node {
	var l []api.Node
	for _, n := range leaves() {
		for place := range endAt {
			wrong := noNumbers()
			least, greatest, own := bounds(n.Kind, place)
			if own {
				wrong = append(wrong, math.Copysign(0, -1), below(least), above(greatest))
			} else {
				wrong = append(wrong, tiny, 0.0625, 0.5, 1, 2)
			}
			for _, x := range wrong {
				l = append(l, withNumber(n, place, x))
			}
		}
	}
	return l
}

// wrongKinds is what would be right, if it were of another kind, or had no other nodes.
func wrongKinds() []api.Node {
	l := []api.Node{{}, {Kind: api.NodeMix, W: 0.5}, {Kind: api.NodeMix, W: 1, A: 1, B: 2}, {Kind: api.NodeCoat, Ior: 1.5, Tint: rgb{1, 1, 1}}}
	for kind := range 256 {
		for _, n := range leaves() {
			if n.Kind != uint8(kind) && !(n.Kind == api.NodeLambert && kind == int(api.NodeOren)) { // which is right with Sigma 0
				n.Kind = uint8(kind)
				l = append(l, n)
			}
		}
	}
	for _, n := range leaves() {
		for _, place := range []int{1, -1, 2, 4096, math.MaxInt, math.MinInt} {
			first, second := n, n
			first.A, second.B = place, place
			l = append(l, first, second)
		}
	}
	return l
}

func TestRightP111(t *testing.T) {
	for _, n := range append(leaves(), rightNodes()...) {
		if !pairs.Right(n) {
			t.Errorf("Right(%+v): false", n)
		}
	}
	for _, n := range []api.Node{lambertOf(0, 0, 0), lambertOf(1, 1, 1), orenOf(0, 0, 0, 0), orenOf(1, 1, 1, 1), plasticOf(0.03125, 1.0625), plasticOf(1, 4), metalOf(0.03125, rgb{0.0625, 0.0625, 0.0625}, rgb{0.0625, 0.0625, 0.0625}), metalOf(1, rgb{16, 16, 16}, rgb{16, 16, 16})} {
		if !pairs.Right(n) {
			t.Errorf("Right(%+v): false", n)
		}
	}
}

func TestWrongNumbersP111(t *testing.T) {
	for _, n := range wrongNumbers() {
		if pairs.Right(n) {
			t.Errorf("Right(%+v): true", n)
		}
	}
}

func TestWrongKindsP111(t *testing.T) {
	for _, n := range wrongKinds() {
		if pairs.Right(n) {
			t.Errorf("Right(%+v): true", n)
		}
	}
}

// -0 where a kind has no number changes nothing.
func TestRightNodesP112(t *testing.T) {
	for _, n := range rightNodes() {
		if got, err := straightUp().value(n, 0); err != api.OK || got.Lo < 0 {
			t.Errorf("Value(%+v, 0, ..): %v, %d", n, got, err)
		}
	}
}

func TestRightNodesP113(t *testing.T) {
	for _, n := range rightNodes() {
		if got, err := straightUp().density(n); err != api.OK || got.Lo <= 0 {
			t.Errorf("Density(%+v, ..): %v, %d", n, got, err)
		}
	}
}

func TestWrongNodesP112(t *testing.T) {
	for _, n := range append(wrongNumbers(), wrongKinds()...) {
		for _, d := range others() {
			valueFails(t, n, d, api.ErrArg)
		}
	}
}

func TestWrongNodesP113(t *testing.T) {
	for _, n := range append(wrongNumbers(), wrongKinds()...) {
		for _, d := range others() {
			densityFails(t, n, d, api.ErrArg)
		}
	}
}
