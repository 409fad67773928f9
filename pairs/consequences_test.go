package pairs_test

import (
	"iter"
	"math"
	"math/big"
	"math/rand/v2"
	"testing"

	"burnish/api"
	"burnish/ival"
	"burnish/vec"
)

func meet(a, b api.Iv) bool {
	_, common := ival.Meet(a, b)
	return common
}

// asked is what Value was asked, and what it told.
type asked struct {
	n       api.Node
	channel int
	d       directions
	value   api.Iv
}

// told yields what Value told without an error.
func told(t *testing.T, seed uint64, tries int) iter.Seq[asked] {
	return func(yield func(asked) bool) {
		r := rand.New(rand.NewPCG(seed, 11))
		var many [5]int
		for range tries {
			x := asked{n: anyLeaf(r), channel: r.IntN(3), d: anyDirections(r)}
			var err api.Errno
			if x.value, err = x.d.value(x.n, x.channel); err != api.OK {
				continue
			}
			if many[x.n.Kind]++; !yield(x) {
				return
			}
		}
		for kind := api.NodeLambert; kind <= api.NodeMetal; kind++ {
			if many[kind] < tries/10 {
				t.Errorf("without an error, of the kind %d: %d", kind, many[kind])
			}
		}
	}
}

func TestExchangedP114(t *testing.T) {
	for x := range told(t, 3, 30000) {
		other, err := x.d.exchanged().value(x.n, x.channel)
		if err == api.ErrOver && x.n.Kind >= api.NodePlastic { // next to what is too great, a last bit may make it so
			continue
		}
		// What is scattered is computed of both alike.
		if err != api.OK || !meet(x.value, other) || x.n.Kind <= api.NodeOren && !same(x.value, other) {
			t.Fatalf("Value(%+v, %d, %v, %v): %v; exchanged: %v, %d", x.n, x.channel, x.d.in(), x.d.out(), x.value, other, err)
		}
	}
}

func TestNeverBelow0P114(t *testing.T) {
	for x := range told(t, 4, 30000) {
		density, err := x.d.density(x.n)
		if err != api.OK || x.value.Lo < 0 || density.Lo < 0 {
			t.Fatalf("of %+v, %d, %v, %v: %v, %v, %d", x.n, x.channel, x.d.in(), x.d.out(), x.value, density, err)
		}
	}
}

func overRealPi(x float64) *big.Rat {
	pi, _ := new(big.Rat).SetString("3.14159265358979323846264338327950288419716939937510582097494459230781640628620899862803482534211706798214808651328230664709384460955058")
	return pi.Quo(exact(x), pi)
}

func TestLambertP114(t *testing.T) {
	r := rand.New(rand.NewPCG(5, 11))
	white, err := straightUp().value(lambertOf(1, 1, 1), 0)
	if err != api.OK || !same(white, iv(down(overRealPi(1)), up(overRealPi(1)))) {
		t.Fatalf("white: %v, %d", white, err)
	}
	for range 20000 {
		n, channel, d := lambertOf(anyFrom(r, 0, 1), anyFrom(r, 0, 1), anyFrom(r, 0, 1)), r.IntN(3), anyDirections(r)
		part := overRealPi(n.Rho[channel])
		got, err := d.value(n, channel)
		if err != api.OK || exact(got.Lo).Cmp(part) > 0 || exact(got.Hi).Cmp(part) < 0 || got.Lo > white.Lo || got.Hi > white.Hi || got.Hi-got.Lo > n.Rho[channel]*power(-52) {
			t.Fatalf("Value(%+v, %d, %v, %v): %v, %d", n, channel, d.in(), d.out(), got, err)
		}
	}
}

// within returns intervals within those of d, often with an end of them, or single numbers.
func within(r *rand.Rand, d directions) (parts directions) {
	for place, a := range d {
		b, c := anyFrom(r, a.Lo, a.Hi), anyFrom(r, a.Lo, a.Hi)
		switch r.IntN(4) {
		case 0:
			b = a.Lo
		case 1:
			b = a.Hi
		case 2:
			b = c
		}
		parts[place] = iv(min(b, c), max(b, c))
	}
	return parts
}

func inside(part, whole api.Iv) bool {
	return whole.Lo <= part.Lo && part.Lo <= part.Hi && part.Hi <= whole.Hi
}

func TestNarrowerP4(t *testing.T) {
	r := rand.New(rand.NewPCG(6, 11))
	for x := range told(t, 6, 20000) {
		parts := within(r, x.d)
		value, err := parts.value(x.n, x.channel)
		if err != api.OK || !inside(value, x.value) {
			t.Fatalf("Value(%+v, %d, %v, %v): %v; but of %v, %v: %v, %d", x.n, x.channel, x.d.in(), x.d.out(), x.value, parts.in(), parts.out(), value, err)
		}
		whole, _ := x.d.density(x.n)
		if part, err := parts.density(x.n); err != api.OK || !inside(part, whole) {
			t.Fatalf("Density(%+v, %v, %v): %v; but of %v, %v: %v, %d", x.n, x.d.in(), x.d.out(), whole, parts.in(), parts.out(), part, err)
		}
	}
}

// The model of a material in plain floats, of unit vectors: it is written down apart from the chapters' formulas, and is off by some last bits.

type vector [3]float64

func (a vector) dot(b vector) float64 { return a[0]*b[0] + a[1]*b[1] + a[2]*b[2] }

func plainOren(sigma float64, in, out vector) float64 {
	s := in.dot(out) - in[2]*out[2]
	if s > 0 {
		s /= max(in[2], out[2])
	}
	return (1 + sigma*min(s, 1)) / (math.Pi + (math.Pi/2-2.0/3)*sigma)
}

// plainMirrors returns the value of what reflects all, the density, and the cosine of either direction to the mirror.
func plainMirrors(alpha float64, in, out vector) (value, density, half float64) {
	sum := vector{in[0] + out[0], in[1] + out[1], in[2] + out[2]}
	length := math.Sqrt(sum.dot(sum))
	lean := sum[2] / length
	slope := (1 - lean*lean) / (lean * lean)
	d := 1 / (math.Pi * alpha * alpha * math.Pow(lean, 4) * math.Pow(1+slope/(alpha*alpha), 2))
	hidden := func(cos float64) float64 { return (math.Sqrt(1+alpha*alpha*(1/(cos*cos)-1)) - 1) / 2 }
	g1, g2 := 1/(1+hidden(out[2])), 1/(1+hidden(in[2])+hidden(out[2]))
	return d * g2 / (4 * in[2] * out[2]), g1 * d / (4 * out[2]), length / 2
}

// plainFresnel is by complex numbers: those of a dielectric have no imaginary part.
func plainFresnel(cos float64, n complex128) float64 {
	inside := sqrtOf(n*n - complex(1-cos*cos, 0))
	size := func(z complex128) float64 { return real(z)*real(z) + imag(z)*imag(z) }
	c := complex(cos, 0)
	return (size((c-inside)/(c+inside)) + size((n*n*c-inside)/(n*n*c+inside))) / 2
}

func sqrtOf(z complex128) complex128 {
	size := math.Hypot(real(z), imag(z))
	return complex(math.Sqrt((size+real(z))/2), math.Copysign(math.Sqrt(max(0, (size-real(z))/2)), imag(z)))
}

func plain(n api.Node, channel int, in, out vector) (value, density float64) {
	switch n.Kind {
	case api.NodeLambert:
		return n.Rho[channel] / math.Pi, in[2] / math.Pi
	case api.NodeOren:
		return n.Rho[channel] * plainOren(n.Sigma, in, out), in[2] / math.Pi
	}
	value, density, half := plainMirrors(n.Alpha, in, out)
	index := complex(n.Ior, 0)
	if n.Kind == api.NodeMetal {
		index = complex(n.Eta[channel], n.K[channel])
	}
	return value * plainFresnel(half, index), density
}

// near reports whether a, which is narrow, is at x.
func near(a api.Iv, x float64) bool {
	off := 1e-9 + x*1e-9
	return a.Lo <= x+off && x-off <= a.Hi && a.Hi-a.Lo <= off
}

func TestPlainP4(t *testing.T) {
	r := rand.New(rand.NewPCG(7, 11))
	direction := func() (vector, api.Vec) {
		for {
			f := vector{r.Float64()*2 - 1, r.Float64()*2 - 1, r.Float64()}
			length := math.Sqrt(f.dot(f))
			f = vector{f[0] / length, f[1] / length, f[2] / length}
			if d, err := vec.Unit(api.F3{X: f[0], Y: f[1], Z: f[2]}); err == api.OK && f[2] > 0.05 {
				return f, d
			}
		}
	}
	for range 20000 {
		n, channel := anyLeaf(r), r.IntN(3)
		in, inside := direction()
		out, outside := direction()
		value, err := given(inside, outside).value(n, channel)
		density, e := given(inside, outside).density(n)
		if x, y := plain(n, channel, in, out); err != api.OK || e != api.OK || !near(value, x) || !near(density, y) {
			t.Fatalf("of %+v, %d, %v, %v: %v, %d, and %v, %d; want %v, %v", n, channel, in, out, value, err, density, e, x, y)
		}
	}
}
