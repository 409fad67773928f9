package fresnel_test

import (
	"math/big"
	"math/rand/v2"
	"testing"

	"burnish/api"
	"burnish/fresnel"
)

// real is a real number, to 800 bits.
type real struct{ f *big.Float }

func bits() *big.Float { return new(big.Float).SetPrec(800) }

func whole(n int64) real { return real{bits().SetInt64(n)} }

func (x real) plus(y real) real { return real{bits().Add(x.f, y.f)} }

func (x real) minus(y real) real { return real{bits().Sub(x.f, y.f)} }

func (x real) times(y real) real { return real{bits().Mul(x.f, y.f)} }

func (x real) over(y real) real { return real{bits().Quo(x.f, y.f)} }

func (x real) square() real { return x.times(x) }

func (x real) root() real { return real{bits().Sqrt(x.f)} }

func (x real) half() real { return x.over(whole(2)) }

// realIn returns a real number of a: an end, or one in between.
func realIn(r *rand.Rand, a api.Iv) real {
	low, high := real{bits().SetFloat64(a.Lo)}, real{bits().SetFloat64(a.Hi)}
	return low.plus(high.minus(low).times(whole(r.Int64N(5))).over(whole(4)))
}

// holds reports whether a has x, which may be off by its last bits.
func holds(a api.Iv, x real) bool {
	off := real{bits().SetMantExp(big.NewFloat(1), -300)}
	return bits().SetFloat64(a.Lo).Cmp(x.plus(off).f) <= 0 && x.minus(off).f.Cmp(bits().SetFloat64(a.Hi)) <= 0
}

// bySnell is what a dielectric reflects, by the cosine beyond the surface.
func bySnell(c, n real) real {
	one := whole(1)
	s := one.minus(one.minus(c.square()).over(n.square())).root()
	across := c.minus(n.times(s)).over(c.plus(n.times(s)))
	along := n.times(c).minus(s).over(n.times(c).plus(s))
	return across.square().plus(along.square()).half()
}

// compound is a complex number.
type compound struct{ re, im real }

func (x compound) plus(y compound) compound { return compound{x.re.plus(y.re), x.im.plus(y.im)} }

func (x compound) minus(y compound) compound { return compound{x.re.minus(y.re), x.im.minus(y.im)} }

func (x compound) times(y compound) compound {
	return compound{x.re.times(y.re).minus(x.im.times(y.im)), x.re.times(y.im).plus(x.im.times(y.re))}
}

func (x compound) sizeSquare() real { return x.re.square().plus(x.im.square()) }

// root is asked for what has an imaginary part above 0 alone.
func (x compound) root() compound {
	re := x.sizeSquare().root().plus(x.re).half().root()
	return compound{re, x.im.half().over(re)}
}

// byComplexIndex is what a conductor reflects: what a dielectric does, whose index is eta and k times i.
func byComplexIndex(c, eta, k real) real {
	zero, index := whole(0), compound{eta, k}
	w := index.times(index).minus(compound{whole(1).minus(c.square()), zero}).root() // the index times the cosine beyond the surface
	straight := compound{c, zero}
	across := straight.minus(w).sizeSquare().over(straight.plus(w).sizeSquare())
	bent := index.times(index).times(straight)
	along := bent.minus(w).sizeSquare().over(bent.plus(w).sizeSquare())
	return across.plus(along).half()
}

func checkFraction(t *testing.T, f api.Iv, what ...any) {
	t.Helper()
	if f.Lo < 0 || f.Lo > f.Hi || f.Hi > 1 {
		t.Errorf("%v: %v", what, f)
	}
}

func TestSingleNumbersP63(t *testing.T) {
	r := rand.New(rand.NewPCG(3, 6))
	cosines := []float64{tiny, power(-1022), power(-600), power(-537), power(-60), 0.5, below(1), 1}
	indices := []float64{1.0625, above(1.0625), below(4), 4}
	metals := []float64{0.0625, above(0.0625), 1, below(16), 16}
	for range 3000 {
		cosines = append(cosines, anyFrom(r, 0, 1))
	}
	for _, cos := range append(cosines, 0) {
		for _, n := range append(indices, anyFrom(r, 1.0625, 4)) {
			f, err := fresnel.Dielectric(single(cos), single(n))
			if checkFraction(t, f, cos, n); err != api.OK {
				t.Fatalf("Dielectric(%g, %g): %v, %d", cos, n, f, err)
			}
		}
	}
	for _, cos := range cosines {
		eta := append(metals, anyFrom(r, 0.0625, 16))[r.IntN(6)]
		k := append(metals, anyFrom(r, 0.0625, 16))[r.IntN(6)]
		if cos == 0 {
			continue
		}
		f, err := fresnel.Conductor(single(cos), single(eta), single(k))
		if checkFraction(t, f, cos, eta, k); err != api.OK {
			t.Fatalf("Conductor(%g, %g, %g): %v, %d", cos, eta, k, f, err)
		}
	}
}

// part returns an interval within a, often with an end of it, or a single number.
func part(r *rand.Rand, a api.Iv) api.Iv {
	b := anyInterval(r, a.Lo, a.Hi)
	switch r.IntN(4) {
	case 0:
		b.Lo = a.Lo
	case 1:
		b.Hi = a.Hi
	}
	return b
}

func TestNarrowerIsWithinP63(t *testing.T) {
	r := rand.New(rand.NewPCG(4, 6))
	within := func(f, all api.Iv) bool { return all.Lo <= f.Lo && f.Lo <= f.Hi && f.Hi <= all.Hi }
	for range 20000 {
		cos, n := anyCosine(r), anyIndex(r)
		all, _ := fresnel.Dielectric(cos, n)
		checkFraction(t, all, cos, n)
		if f, err := fresnel.Dielectric(part(r, cos), part(r, n)); !within(f, all) || err != api.OK {
			t.Fatalf("Dielectric(%v, %v) is %v, but within them there is %v, %d", cos, n, all, f, err)
		}
		eta, k := anyMetal(r), anyMetal(r)
		all, err := fresnel.Conductor(cos, eta, k)
		if checkFraction(t, all, cos, eta, k); err != api.OK {
			continue
		}
		if f, err := fresnel.Conductor(part(r, cos), part(r, eta), part(r, k)); !within(f, all) || err != api.OK {
			t.Fatalf("Conductor(%v, %v, %v) is %v, but within them there is %v, %d", cos, eta, k, all, f, err)
		}
	}
}

func TestSnellP63(t *testing.T) {
	r := rand.New(rand.NewPCG(5, 6))
	for range 5000 {
		cos, n := anyCosine(r), anyIndex(r)
		f, _ := fresnel.Dielectric(cos, n)
		if x := bySnell(realIn(r, cos), realIn(r, n)); !holds(f, x) {
			t.Fatalf("Dielectric(%v, %v) is %v, without %v", cos, n, f, x.f)
		}
	}
}

func TestComplexIndexP63(t *testing.T) {
	r := rand.New(rand.NewPCG(6, 6))
	for range 5000 {
		cos, eta, k := anyCosine(r), anyMetal(r), anyMetal(r)
		f, err := fresnel.Conductor(cos, eta, k)
		if x := byComplexIndex(realIn(r, cos), realIn(r, eta), realIn(r, k)); err == api.OK && !holds(f, x) {
			t.Fatalf("Conductor(%v, %v, %v) is %v, without %v", cos, eta, k, f, x.f)
		}
	}
}

func TestStraightP63(t *testing.T) {
	r := rand.New(rand.NewPCG(7, 6))
	one := whole(1)
	for range 3000 {
		n := anyIndex(r)
		f, _ := fresnel.Dielectric(single(1), n)
		index := realIn(r, n)
		if x := index.minus(one).over(index.plus(one)).square(); !holds(f, x) {
			t.Fatalf("Dielectric(1, %v) is %v, without %v", n, f, x.f)
		}
		eta, k := anyMetal(r), anyMetal(r)
		f, err := fresnel.Conductor(single(1), eta, k)
		e, absorbed := realIn(r, eta), realIn(r, k).square()
		x := e.minus(one).square().plus(absorbed).over(e.plus(one).square().plus(absorbed))
		if !holds(f, x) || err != api.OK {
			t.Fatalf("Conductor(1, %v, %v) is %v, %d, without %v", eta, k, f, err, x.f)
		}
	}
}
