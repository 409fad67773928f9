package pairs

import (
	"burnish/api"
	"burnish/fresnel"
	"burnish/ival"
	"burnish/lambert"
	"burnish/micro"
	"burnish/oren"
	"burnish/vec"
)

// leaf is a node with all that a simple material does. Only what its kind does may be asked of it, and only once it is right.
type leaf api.Node

// kind is what the leaves of one kind do.
type kind struct {
	right   func(n leaf) bool
	value   func(n leaf, channel int, in, out api.Vec) (api.Iv, api.Errno)
	density func(n leaf, in, out api.Vec) (api.Iv, api.Errno)
}

func kinds() map[uint8]kind {
	return map[uint8]kind{
		api.NodeLambert: {leaf.rightLambert, leaf.lambert, leaf.byCosine},
		api.NodeOren:    {leaf.rightOren, leaf.oren, leaf.byCosine},
		api.NodePlastic: {leaf.rightPlastic, leaf.plastic, leaf.byMirrors},
		api.NodeMetal:   {leaf.rightMetal, leaf.metal, leaf.byMirrors},
	}
}

// kindOf returns what the kind of n does, if n is a leaf that is right.
func kindOf(n api.Node) (kind, bool) {
	k, ok := kinds()[n.Kind]
	if !ok || !k.right(leaf(n)) {
		return kind{}, false
	}
	return k, true
}

// In each of these n is held against a leaf that has nothing but its kind's numbers: -0 is equal to 0 there, NaN to nothing.

func (n leaf) rightLambert() bool {
	return n == leaf{Kind: n.Kind, Rho: n.Rho} && within(0, 1, n.Rho[:]...)
}

func (n leaf) rightOren() bool {
	return n == leaf{Kind: n.Kind, Sigma: n.Sigma, Rho: n.Rho} && within(0, 1, n.Sigma) && within(0, 1, n.Rho[:]...)
}

func (n leaf) rightPlastic() bool {
	return n == leaf{Kind: n.Kind, Alpha: n.Alpha, Ior: n.Ior} && within(api.MinAlpha, 1, n.Alpha) && within(api.MinIor, api.MaxIor, n.Ior)
}

func (n leaf) rightMetal() bool {
	return n == leaf{Kind: n.Kind, Alpha: n.Alpha, Eta: n.Eta, K: n.K} && within(api.MinAlpha, 1, n.Alpha) && within(api.MinMetal, api.MaxMetal, n.Eta[:]...) && within(api.MinMetal, api.MaxMetal, n.K[:]...)
}

func (n leaf) lambert(channel int, _, _ api.Vec) (api.Iv, api.Errno) {
	return lambert.Value(single(n.Rho[channel]))
}

func (n leaf) oren(channel int, in, out api.Vec) (api.Iv, api.Errno) {
	var c ival.Calc // with components of directions it never has an error
	dot := vec.Dot(&c, in, out)
	// That of unit vectors may be beyond 1 by a last bit, that of others by more.
	dot = api.Iv{Lo: min(max(dot.Lo, -1), 1), Hi: min(max(dot.Hi, -1), 1)}
	return oren.Value(single(n.Rho[channel]), single(n.Sigma), in.Z, out.Z, dot)
}

func (n leaf) plastic(_ int, in, out api.Vec) (api.Iv, api.Errno) {
	return n.mirrored(in, out, func(half api.Iv) (api.Iv, api.Errno) {
		return fresnel.Dielectric(half, single(n.Ior))
	})
}

func (n leaf) metal(channel int, in, out api.Vec) (api.Iv, api.Errno) {
	return n.mirrored(in, out, func(half api.Iv) (api.Iv, api.Errno) {
		return fresnel.Conductor(half, single(n.Eta[channel]), single(n.K[channel]))
	})
}

// mirrored returns what tiny mirrors send that reflect the part that is told of the cosine at which they are met.
func (n leaf) mirrored(in, out api.Vec, reflected func(half api.Iv) (api.Iv, api.Errno)) (api.Iv, api.Errno) {
	g, err := micro.Look(in, out, single(n.Alpha))
	if err != api.OK {
		return api.Iv{}, err
	}
	part, err := reflected(g.Half)
	if err != api.OK {
		return api.Iv{}, err
	}
	var c ival.Calc
	return c.Mul(g.Value, part), c.Err()
}

func (n leaf) byCosine(in, _ api.Vec) (api.Iv, api.Errno) {
	return lambert.Density(in.Z)
}

func (n leaf) byMirrors(in, out api.Vec) (api.Iv, api.Errno) {
	g, err := micro.Look(in, out, single(n.Alpha))
	return g.Density, err
}

// single returns the interval of a number that is right.
func single(x float64) api.Iv {
	return api.Iv{Lo: x, Hi: x}
}
