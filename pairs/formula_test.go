package pairs_test

import (
	"math"
	"math/big"
	"math/rand/v2"
	"slices"
	"testing"

	"burnish/api"
	"burnish/fresnel"
	"burnish/lambert"
	"burnish/micro"
	"burnish/oren"
	"burnish/vec"
)

// The results are held, bit by bit, against what the chapter makes of the layers below, which are held to be right; what it computes by itself is computed with fractions, each step of which is rounded by itself, down for the lower end, up for the upper one.

func exact(x float64) *big.Rat { return new(big.Rat).SetFloat64(x) }

// down and up return the numbers next to x, which are x if it is one.
func down(x *big.Rat) float64 {
	f, _ := x.Float64()
	if exact(f).Cmp(x) > 0 {
		f = below(f)
	}
	return f + 0 // which is not -0
}

func up(x *big.Rat) float64 { return 0 - down(new(big.Rat).Neg(x)) }

// corners returns the interval of what the operation makes of the ends, which has all of what it makes of numbers in between.
func corners(operation func(z, x, y *big.Rat) *big.Rat, a, b api.Iv) api.Iv {
	var l []*big.Rat
	for _, x := range []float64{a.Lo, a.Hi} {
		for _, y := range []float64{b.Lo, b.Hi} {
			l = append(l, operation(new(big.Rat), exact(x), exact(y)))
		}
	}
	return iv(down(slices.MinFunc(l, (*big.Rat).Cmp)), up(slices.MaxFunc(l, (*big.Rat).Cmp)))
}

func plus(a, b api.Iv) api.Iv { return corners((*big.Rat).Add, a, b) }

func times(a, b api.Iv) api.Iv { return corners((*big.Rat).Mul, a, b) }

// dot returns the dot product, with the ends that are beyond -1 and 1 moved there, and whether there was one.
func (d directions) dot() (api.Iv, bool) {
	sum := plus(plus(times(d[0], d[3]), times(d[1], d[4])), times(d[2], d[5]))
	bounded := iv(math.Max(-1, math.Min(1, sum.Lo)), math.Max(-1, math.Min(1, sum.Hi)))
	return bounded, bounded != sum
}

func product(a, b api.Iv, errA, errB api.Errno) (api.Iv, api.Errno) {
	if errA != api.OK {
		return api.Iv{}, errA
	}
	if errB != api.OK {
		return api.Iv{}, errB
	}
	return times(a, b), api.OK
}

// valueOf is what Value has to tell of what is right.
func valueOf(n api.Node, channel int, d directions) (api.Iv, api.Errno) {
	switch n.Kind {
	case api.NodeLambert:
		return lambert.Value(single(n.Rho[channel]))
	case api.NodeOren:
		dot, _ := d.dot()
		return oren.Value(single(n.Rho[channel]), single(n.Sigma), d[2], d[5], dot)
	}
	g, err := micro.Look(d.in(), d.out(), single(n.Alpha))
	if n.Kind == api.NodePlastic {
		part, errPart := fresnel.Dielectric(g.Half, single(n.Ior))
		return product(g.Value, part, err, errPart)
	}
	part, errPart := fresnel.Conductor(g.Half, single(n.Eta[channel]), single(n.K[channel]))
	return product(g.Value, part, err, errPart)
}

func densityOf(n api.Node, d directions) (api.Iv, api.Errno) {
	if n.Kind == api.NodeLambert || n.Kind == api.NodeOren {
		return lambert.Density(d[2])
	}
	g, err := micro.Look(d.in(), d.out(), single(n.Alpha))
	return g.Density, err
}

// anyFrom returns numbers from low to high: those of few digits, next to both ends, and others.
func anyFrom(r *rand.Rand, low, high float64) float64 {
	x, wide := low+(high-low)*r.Float64(), high-low
	switch r.IntN(5) {
	case 0:
		x = low + wide*float64(r.IntN(17))/16
	case 1:
		x = low + wide*r.Float64()*power(-r.IntN(60))
	case 2:
		x = high - wide*r.Float64()*power(-r.IntN(60))
	}
	return max(low, min(high, x)) + 0 // a sum may be rounded beyond them
}

// anyLeaf returns a leaf that is right, of any kind.
func anyLeaf(r *rand.Rand) api.Node {
	n := leaves()[r.IntN(4)]
	for place := range endAt {
		if least, greatest, own := bounds(n.Kind, place); own {
			n = withNumber(n, place, anyFrom(r, least, greatest))
		}
	}
	if n.Kind == api.NodeMetal && r.IntN(4) == 0 { // by which errors of a metal are likelier
		for channel := range n.Eta {
			n.Eta[channel], n.K[channel] = 0.0625+power(-5-r.IntN(50)), 0.0625
		}
	}
	return n
}

// widened returns an interval from low to high that has x, and goes on to either side by at most a part of what there is.
func widened(r *rand.Rand, x, low, high, part float64) api.Iv {
	wide := (high - low) * part
	return iv(max(low, x-wide*r.Float64())+0, min(high, x+wide*r.Float64())+0)
}

func lowOf(place int) float64 {
	if place%3 == 2 {
		return 0
	}
	return -1
}

func anyUnit(r *rand.Rand) api.Vec {
	for {
		if d, err := vec.Unit(api.F3{X: anyFrom(r, -1, 1), Y: anyFrom(r, -1, 1), Z: anyFrom(r, 0, 1)}); err == api.OK {
			return d
		}
	}
}

// anyDirections returns unit vectors, other vectors, and out next to in, or next to its mirror image; all of it, or the cosines alone, may be next to 0.
func anyDirections(r *rand.Rand) directions {
	d := given(anyUnit(r), anyUnit(r))
	if r.IntN(3) == 0 {
		return d
	}
	wide := float64(r.IntN(3)) * power(-r.IntN(54))
	lower, from := 1.0, 2*r.IntN(2)
	switch r.IntN(8) {
	case 0:
		lower = power(-r.IntN(1074))
	case 1:
		lower = power(-500 - r.IntN(45))
	case 2:
		lower = power(-1015 - r.IntN(20))
	}
	side, aside := float64(r.IntN(2)*2-1), r.IntN(2) == 0
	for place := range d {
		x := anyFrom(r, lowOf(place), 1)
		if place >= 3 && aside {
			x = side*d[place-3].Lo + float64(r.IntN(3)-1)*power(-r.IntN(60))
		}
		d[place] = widened(r, max(lowOf(place), min(1, x))+0, lowOf(place), 1, wide)
	}
	for place := range d {
		if place%3 >= from {
			d[place] = iv(d[place].Lo*lower+0, d[place].Hi*lower+0)
		}
	}
	if r.IntN(16) == 0 {
		return risen(r, d)
	}
	return d
}

// risen returns d with cosines from next to 0 up to 1; the sum of both may be next to 0.
func risen(r *rand.Rand, d directions) directions {
	d[2], d[5] = iv(power(-512+r.IntN(8))*(1+r.Float64()), 1), iv(power(-512+r.IntN(8))*(1+r.Float64()), 1)
	if r.IntN(2) == 0 {
		d[0], d[1] = iv(-1, 1), iv(-1, 1)
	}
	return d
}

// met counts, kind by kind, which error there was how often.
type met [5]struct{ ok, zero, over int }

func (m *met) count(n api.Node, err api.Errno) {
	switch err {
	case api.OK:
		m[n.Kind].ok++
	case api.ErrZero:
		m[n.Kind].zero++
	case api.ErrOver:
		m[n.Kind].over++
	}
}

// enough reports whether all kinds from first on met both errors.
func (m *met) enough(first uint8) bool {
	for kind := api.NodeLambert; kind <= api.NodeMetal; kind++ {
		x := m[kind]
		if x.ok < 1000 || kind >= first && (x.zero < 50 || x.over < 50) || kind < first && x.zero+x.over > 0 {
			return false
		}
	}
	return true
}

func TestFormulaP112(t *testing.T) {
	r := rand.New(rand.NewPCG(1, 11))
	var m met
	bounded, ofMetal := 0, 0
	for range 24000 {
		n, channel, d := anyLeaf(r), r.IntN(3), anyDirections(r)
		want, err := valueOf(n, channel, d)
		if checkValue(t, n, channel, d, want, err); t.Failed() {
			return
		}
		m.count(n, err)
		if _, beyond := d.dot(); beyond && n.Kind == api.NodeOren && err == api.OK {
			bounded++
		}
		if _, e := densityOf(n, d); e == api.OK && err != api.OK && n.Kind == api.NodeMetal {
			ofMetal++
		}
	}
	if !m.enough(api.NodeOren) || bounded < 100 || ofMetal < 5 {
		t.Errorf("%+v; beyond 1: %d; the error of a metal alone: %d", m, bounded, ofMetal)
	}
}

func TestFormulaP113(t *testing.T) {
	r := rand.New(rand.NewPCG(2, 11))
	var m met
	for range 16000 {
		n, d := anyLeaf(r), anyDirections(r)
		want, err := densityOf(n, d)
		if checkDensity(t, n, d, want, err); t.Failed() {
			return
		}
		m.count(n, err)
	}
	if !m.enough(api.NodePlastic) {
		t.Errorf("%+v", m)
	}
}
