package micro_test

import (
	"iter"
	"math/big"
	"math/rand/v2"
	"testing"

	"burnish/api"
	"burnish/ggx"
	"burnish/ival"
)

func meet(a, b api.Iv) bool {
	_, common := ival.Meet(a, b)
	return common
}

// looked yields arguments that have no error, with what Look tells of them.
func looked(t *testing.T, seed uint64, tries int) iter.Seq2[arguments, api.Gloss] {
	return func(yield func(arguments, api.Gloss) bool) {
		r := rand.New(rand.NewPCG(seed, 10))
		many := 0
		for range tries {
			x := anyArguments(r)
			g, err := x.look()
			if err != api.OK {
				continue
			}
			if many++; !yield(x, g) {
				return
			}
		}
		if many < tries/2 {
			t.Errorf("without an error: %d", many)
		}
	}
}

func TestExchangedP103(t *testing.T) {
	for x, one := range looked(t, 4, 30000) {
		other, err := x.exchanged().look()
		if err == api.ErrOver { // next to what is too great, a last bit may make it so
			continue
		}
		if !same(one.Lean, other.Lean) || !same(one.Half, other.Half) || !meet(one.Value, other.Value) || err != api.OK {
			t.Fatalf("Look(%v, %v, %v): %v; exchanged: %v, %d", x.in(), x.out(), x.alpha(), one, other, err)
		}
	}
}

// Both sides are (D * G1 * G2) / (4 * out.Z).
func TestValueAndDensityP103(t *testing.T) {
	for x, g := range looked(t, 5, 30000) {
		one, errOne := ggx.G1(x[5], x.alpha())
		two, errTwo := ggx.G2(x[2], x[5], x.alpha())
		var c ival.Calc
		left, right := c.Mul(c.Mul(g.Value, x[2]), one), c.Mul(g.Density, two)
		if !meet(left, right) || errOne != api.OK || errTwo != api.OK || c.Err() != api.OK {
			t.Fatalf("Look(%v, %v, %v): %v, by which there are %v and %v", x.in(), x.out(), x.alpha(), g, left, right)
		}
	}
}

func TestStraightBackP103(t *testing.T) {
	r := rand.New(rand.NewPCG(6, 10))
	for range 20000 {
		d, _ := units(r)
		x := given(d, d, single(0.5))
		lean, half, err := x.half()
		if err != api.OK || !meet(lean, d.Z) || !ival.Has(half, 1) || half.Lo < 1-power(-48) || lean.Hi-lean.Lo > power(-48) {
			t.Fatalf("Half of %v, twice: %v, %v, %d", d, lean, half, err)
		}
		if g, e := x.look(); d.Z.Lo > power(-500) && (e != api.OK || !meet(g.Lean, d.Z) || !ival.Has(g.Half, 1)) {
			t.Fatalf("Look of %v, twice: %v, %d", d, g, e)
		}
	}
}

// An interval of directions has the unit vector by which it was made.
func TestIntervalsStraightBackP103(t *testing.T) {
	r := rand.New(rand.NewPCG(7, 10))
	many := 0
	for range 20000 {
		d, _ := units(r)
		wide := anyWidth(r)
		var l [3]api.Iv
		for i, a := range []api.Iv{d.X, d.Y, d.Z} {
			l[i] = ival.Hull(a, widened(r, a.Lo, lowOf(i), 1, wide))
		}
		d = box(l[0], l[1], l[2])
		lean, half, err := given(d, d, single(0.5)).half()
		if err == api.OK {
			many++
		}
		if err == api.OK && (!meet(lean, d.Z) || !ival.Has(half, 1)) || err != api.OK && err != api.ErrZero {
			t.Fatalf("Half of %v, twice: %v, %v, %d", d, lean, half, err)
		}
	}
	if many < 10000 {
		t.Errorf("without an error: %d", many)
	}
}

// real is a real number, to 2400 bits: more than what is between the least cosine's square and the last digits of 1.
type real struct{ f *big.Float }

func bits() *big.Float { return new(big.Float).SetPrec(2400) }

func number(x float64) real { return real{bits().SetFloat64(x)} }

func (x real) plus(y real) real { return real{bits().Add(x.f, y.f)} }

func (x real) minus(y real) real { return real{bits().Sub(x.f, y.f)} }

func (x real) times(y real) real { return real{bits().Mul(x.f, y.f)} }

func (x real) over(y real) real { return real{bits().Quo(x.f, y.f)} }

func (x real) square() real { return x.times(x) }

func (x real) root() real { return real{bits().Sqrt(x.f)} }

// holds reports whether a has x, which is not below 0, and may be off by its last bits.
func holds(a api.Iv, x real) bool {
	off := x.times(number(power(-300)))
	return number(a.Lo).f.Cmp(x.plus(off).f) <= 0 && x.minus(off).f.Cmp(number(a.Hi).f) <= 0
}

func realPi() real {
	f, _ := bits().SetString("3.14159265358979323846264338327950288419716939937510582097494459230781640628620899862803482534211706798214808651328230664709384460955058")
	return real{f}
}

func realD(cos, alpha real) real {
	one, a2 := number(1), alpha.square()
	return a2.over(realPi().times(a2.minus(one).times(cos.square()).plus(one).square()))
}

func realLambda(cos, alpha real) real {
	one := number(1)
	t := one.minus(cos.square()).over(cos.square())
	return one.plus(alpha.square().times(t)).root().minus(one).times(number(0.5))
}

// realHalf has no bound for half; its length is never 0.
func realHalf(x [7]real) (lean, half real) {
	height := x[2].plus(x[5])
	n := x[0].plus(x[3]).square().plus(x[1].plus(x[4]).square()).plus(height.square()).root()
	return height.over(n), number(0.5).times(n)
}

func realLook(x [7]real) (value, density real) {
	lean, _ := realHalf(x)
	one, four := number(1), number(4)
	in, out, alpha := x[2], x[5], x[alphaAt]
	d := realD(lean, alpha)
	hidden := one.plus(realLambda(out, alpha))
	g1, g2 := one.over(hidden), one.over(hidden.plus(realLambda(in, alpha)))
	return d.times(g2).over(four.times(in).times(out)), g1.times(d).over(four.times(out))
}

// within returns intervals within those of x, often with an end of them, or single numbers; and a number of each.
func within(r *rand.Rand, x arguments) (parts arguments, numbers [7]real) {
	for place, a := range x {
		b, c := anyFrom(r, a.Lo, a.Hi), anyFrom(r, a.Lo, a.Hi)
		switch r.IntN(4) {
		case 0:
			b = a.Lo
		case 1:
			b = a.Hi
		case 2:
			b = c
		}
		parts[place] = iv(min(b, c), max(b, c))
		numbers[place] = number(anyFrom(r, parts[place].Lo, parts[place].Hi))
	}
	return parts, numbers
}

func inside(part, whole api.Iv) bool {
	return whole.Lo <= part.Lo && part.Lo <= part.Hi && part.Hi <= whole.Hi
}

func TestBoundsOfHalfP103(t *testing.T) {
	r := rand.New(rand.NewPCG(8, 10))
	many := 0
	for range 8000 {
		x := anyArguments(r)
		lean, half, err := x.half()
		if err != api.OK {
			continue
		}
		many++
		parts, numbers := within(r, x)
		partLean, partHalf, e := parts.half()
		if e != api.OK || !inside(partLean, lean) || !inside(partHalf, half) {
			t.Fatalf("Half(%v, %v): %v, %v; but of %v, %v: %v, %v, %d", x.in(), x.out(), lean, half, parts.in(), parts.out(), partLean, partHalf, e)
		}
		realLean, realLength := realHalf(numbers)
		if realLength.f.Cmp(number(1).f) > 0 {
			realLength = number(1)
		}
		if !holds(partLean, realLean) || !holds(partHalf, realLength) {
			t.Fatalf("Half(%v, %v): %v, %v, without %v, or %v", parts.in(), parts.out(), partLean, partHalf, realLean.f, realLength.f)
		}
	}
	if many < 4000 {
		t.Errorf("without an error: %d", many)
	}
}

func TestBoundsOfLookP103(t *testing.T) {
	r := rand.New(rand.NewPCG(9, 10))
	for x, whole := range looked(t, 9, 8000) {
		parts, numbers := within(r, x)
		part, err := parts.look()
		if err != api.OK || !inside(part.Lean, whole.Lean) || !inside(part.Half, whole.Half) || !inside(part.Value, whole.Value) || !inside(part.Density, whole.Density) {
			t.Fatalf("Look(%v, %v, %v): %v; but of %v, %v, %v: %v, %d", x.in(), x.out(), x.alpha(), whole, parts.in(), parts.out(), parts.alpha(), part, err)
		}
		if value, density := realLook(numbers); !holds(part.Value, value) || !holds(part.Density, density) {
			t.Fatalf("Look(%v, %v, %v): %v, without %v, or %v", parts.in(), parts.out(), parts.alpha(), part, value.f, density.f)
		}
	}
}
