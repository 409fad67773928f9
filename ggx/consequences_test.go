package ggx_test

import (
	"math/big"
	"math/rand/v2"
	"testing"

	"burnish/api"
	"burnish/ggx"
	"burnish/ival"
)

// must returns what the function comes to where there is no error.
func (f function) must(t *testing.T, cos, alpha api.Iv) api.Iv {
	t.Helper()
	a, err := f.of(cos, alpha)
	if err != api.OK {
		t.Fatalf("%s(%v, %v): %d", f.name, cos, alpha, err)
	}
	return a
}

func has(a api.Iv, x *big.Rat) bool { return exact(a.Lo).Cmp(x) <= 0 && x.Cmp(exact(a.Hi)) <= 0 }

func TestFacingAtBothEndsP92(t *testing.T) {
	r := rand.New(rand.NewPCG(3, 9))
	alphas, _ := alphasAtEnds()
	for range 2000 {
		alphas = append(alphas, anyAlpha(r))
	}
	for _, alpha := range alphas {
		facing().check(t, single(0), alpha, single(1), api.OK)
		facing().check(t, single(1), alpha, single(0), api.OK)
	}
}

func TestFacingFallsP92(t *testing.T) {
	r := rand.New(rand.NewPCG(4, 9))
	for range 20000 {
		x, y, alpha := anyFrom(r, 0, 1), anyFrom(r, 0, 1), single(anyFrom(r, minAlpha, 1))
		more, less := facing().must(t, single(min(x, y)), alpha), facing().must(t, single(max(x, y)), alpha)
		if less.Lo > more.Hi {
			t.Fatalf("Facing(.., %v) is %v and %v for %g and %g", alpha, more, less, min(x, y), max(x, y))
		}
	}
	for _, alpha := range []float64{minAlpha, 0.1, 0.5, 1} {
		last := single(2)
		for step := range 17 {
			now := facing().must(t, single(float64(step)/16), single(alpha))
			if now.Hi >= last.Lo {
				t.Errorf("Facing(%d/16, %g): %v; for the one ahead %v", step, alpha, now, last)
			}
			last = now
		}
	}
}

// rings returns 2 pi times D times the cosine, integrated from a to b ring by ring: ends is where each of them ends.
func rings(t *testing.T, a float64, ends []float64, alpha api.Iv) api.Iv {
	t.Helper()
	var c ival.Calc
	sum := c.Num(0)
	for _, b := range ends {
		cos, width := iv(a, b), c.Sub(single(b), single(a))
		height := c.Mul(c.Mul(c.Mul(c.Num(2), ival.Pi()), distribution().must(t, cos, alpha)), cos)
		sum = c.Add(sum, c.Mul(height, width))
		a = b
	}
	if c.Err() != api.OK {
		t.Fatal(c.Err())
	}
	return sum
}

// realFacing is a fraction, as the chapter's formula has no root.
func realFacing(cos, alpha float64) *big.Rat {
	c2, a2 := times(exact(cos), exact(cos)), times(exact(alpha), exact(alpha))
	return over(minus(exact(1), c2), plus(times(minus(a2, exact(1)), c2), exact(1)))
}

func TestRingsP92(t *testing.T) {
	r := rand.New(rand.NewPCG(5, 9))
	for range 3000 {
		x, y, alpha := anyFrom(r, 0, 1), anyFrom(r, 0, 1), anyFrom(r, minAlpha, 1)
		a, b := min(x, y), max(x, y)
		var ends []float64
		for i := range 15 {
			ends = append(ends, min(b, a+(b-a)*float64(i+1)/16))
		}
		sum := rings(t, a, append(ends, b), single(alpha))
		var c ival.Calc
		difference := c.Sub(facing().must(t, single(a), single(alpha)), facing().must(t, single(b), single(alpha)))
		if fall := minus(realFacing(a, alpha), realFacing(b, alpha)); !has(sum, fall) || !has(difference, fall) {
			t.Fatalf("from %g to %g, with %g: rings %v, Facing falls by %v, really by %v", a, b, alpha, sum, difference, fall)
		}
	}
}

// The rings become so narrow that there is little beside 1 that the whole may be.
func TestWholeSurfaceP92(t *testing.T) {
	for _, x := range []struct{ alpha, width float64 }{{1, 0.002}, {0.75, 0.002}, {0.5, 0.004}, {0.25, 0.01}, {minAlpha, 0.1}} {
		var ends []float64
		for i := range 2048 {
			left := 1 - float64(i+1)/2048
			ends = append(ends, 1-left*left) // narrower towards 1, where D may be great
		}
		if sum := rings(t, 0, ends, single(x.alpha)); !ival.Has(sum, 1) || sum.Hi-sum.Lo > x.width {
			t.Errorf("with %g mirrors cover %v", x.alpha, sum)
		}
	}
}

func TestVisibleIsAPartP92(t *testing.T) {
	r := rand.New(rand.NewPCG(6, 9))
	for range 20000 {
		in, out, alpha := anyCosine(r), anyCosine(r), anyAlpha(r)
		one, _ := ggx.G1(in, alpha)
		two, _ := ggx.G2(in, out, alpha)
		for _, part := range []api.Iv{one, two} {
			if part.Lo < 0 || part.Lo > part.Hi || part.Hi > 1 {
				t.Fatalf("of %v, %v, %v there are visible %v, %v", in, out, alpha, one, two)
			}
		}
	}
}

// Rounding keeps the order of G2 and either G1 end by end; with their product, only that of real numbers that both have.
func TestVisibleForTwoP92(t *testing.T) {
	r := rand.New(rand.NewPCG(7, 9))
	for range 20000 {
		in, out, alpha := anyCosine(r), anyCosine(r), anyAlpha(r)
		two, err := ggx.G2(in, out, alpha)
		if err != api.OK {
			continue
		}
		var c ival.Calc
		one, other := visible().must(t, in, alpha), visible().must(t, out, alpha)
		lesser, product := c.Min(one, other), c.Mul(one, other)
		if two.Lo > lesser.Lo || two.Hi > lesser.Hi || two.Hi < product.Lo || c.Err() != api.OK {
			t.Fatalf("G2(%v, %v, %v) is %v, but each by itself %v and %v", in, out, alpha, two, one, other)
		}
	}
}

func TestVisibleForTwoIsBetweenP92(t *testing.T) {
	for _, alpha := range []float64{minAlpha, 0.25, 0.5, 1} {
		for in := range 7 {
			for out := range 7 {
				a, b := single(float64(in+1)/8), single(float64(out+1)/8)
				var c ival.Calc
				one, other := visible().must(t, a, single(alpha)), visible().must(t, b, single(alpha))
				two, _ := ggx.G2(a, b, single(alpha))
				if product := c.Mul(one, other); two.Lo <= product.Hi || two.Hi >= min(one.Lo, other.Lo) {
					t.Errorf("G2(%v, %v, %g) is %v, but each by itself %v and %v", a, b, alpha, two, one, other)
				}
			}
		}
	}
}

func TestAlpha1P92(t *testing.T) {
	r := rand.New(rand.NewPCG(8, 9))
	cosines, _ := cosinesAtEnds()
	for range 5000 {
		cosines = append(cosines, anyCosine(r))
	}
	for _, cos := range cosines {
		distribution().check(t, cos, single(1), iv(0x1.45f306dc9c882p-2, 0x1.45f306dc9c883p-2), api.OK)
	}
}

// As real numbers, that is: the sum of three is rounded twice, so that last bits may be others.
func TestSymmetricP92(t *testing.T) {
	r := rand.New(rand.NewPCG(9, 9))
	const wider = 1 + 0x1p-50
	for range 20000 {
		in, out, alpha := anyCosine(r), anyCosine(r), anyAlpha(r)
		one, err := ggx.G2(in, out, alpha)
		other, e := ggx.G2(out, in, alpha)
		if one.Lo > other.Lo*wider || other.Lo > one.Lo*wider || one.Hi > other.Hi*wider || other.Hi > one.Hi*wider || (err == api.OK) != (e == api.OK) {
			t.Fatalf("G2 of %v and %v, with %v: %v, %d; exchanged: %v, %d", in, out, alpha, one, err, other, e)
		}
		if _, common := ival.Meet(one, other); !common {
			t.Fatalf("G2 of %v and %v, with %v: %v; exchanged: %v", in, out, alpha, one, other)
		}
	}
}

// real is a real number, to 2400 bits: more than what is between the least cosine's square and the last digits of 1.
type real struct{ f *big.Float }

func bits() *big.Float { return new(big.Float).SetPrec(2400) }

func number(x float64) real { return real{bits().SetFloat64(x)} }

func (x real) plus(y real) real { return real{bits().Add(x.f, y.f)} }

func (x real) minus(y real) real { return real{bits().Sub(x.f, y.f)} }

func (x real) times(y real) real { return real{bits().Mul(x.f, y.f)} }

func (x real) over(y real) real { return real{bits().Quo(x.f, y.f)} }

func (x real) square() real { return x.times(x) }

func (x real) root() real { return real{bits().Sqrt(x.f)} }

// holds reports whether a has x, which is not below 0, and may be off by its last bits.
func holds(a api.Iv, x real) bool {
	off := x.times(number(power(-300)))
	return number(a.Lo).f.Cmp(x.plus(off).f) <= 0 && x.minus(off).f.Cmp(number(a.Hi).f) <= 0
}

func realPi() real {
	f, _ := bits().SetString("3.14159265358979323846264338327950288419716939937510582097494459230781640628620899862803482534211706798214808651328230664709384460955058")
	return real{f}
}

func realSpread(cos, alpha real) real {
	return alpha.square().minus(number(1)).times(cos.square()).plus(number(1))
}

func realLambda(cos, alpha real) real {
	one := number(1)
	t := one.minus(cos.square()).over(cos.square())
	return one.plus(alpha.square().times(t)).root().minus(one).times(number(0.5))
}

func realVisible(alpha real, cosines ...real) real {
	sum := number(1)
	for _, cos := range cosines {
		sum = sum.plus(realLambda(cos, alpha))
	}
	return number(1).over(sum)
}

// realResult is what a function comes to for numbers, of which other is the first cosine of G2.
func realResult(name string, cos, alpha, other real) real {
	switch name {
	case "D":
		return alpha.square().over(realPi().times(realSpread(cos, alpha).square()))
	case "Lambda":
		return realLambda(cos, alpha)
	case "G1":
		return realVisible(alpha, cos)
	case "G2 second":
		return realVisible(alpha, other, cos)
	}
	return number(1).minus(cos.square()).over(realSpread(cos, alpha))
}

// part returns an interval within a, often with an end of it, or a single number; and a number of that.
func part(r *rand.Rand, a api.Iv) (api.Iv, real) {
	b := anyInterval(r, a.Lo, a.Hi)
	switch r.IntN(4) {
	case 0:
		b.Lo = a.Lo
	case 1:
		b.Hi = a.Hi
	}
	return b, number(anyFrom(r, b.Lo, b.Hi))
}

func inside(f, all api.Iv) bool { return all.Lo <= f.Lo && f.Lo <= f.Hi && f.Hi <= all.Hi }

func TestBoundsP92(t *testing.T) {
	r := rand.New(rand.NewPCG(10, 9))
	met := map[string]int{}
	for range 8000 {
		in, out, alpha := anyCosine(r), anyCosine(r), anyAlpha(r)
		narrowIn, x := part(r, in)
		narrowOut, y := part(r, out)
		narrowAlpha, z := part(r, alpha)
		for _, f := range []struct{ whole, narrow function }{
			{distribution(), distribution()}, {hidden(), hidden()}, {visible(), visible()}, {facing(), facing()}, {second(in), second(narrowIn)},
		} {
			whole, err := f.whole.of(out, alpha)
			if err != api.OK {
				continue
			}
			met[f.whole.name]++
			narrow := f.narrow.must(t, narrowOut, narrowAlpha)
			if !inside(narrow, whole) {
				t.Fatalf("%s(%v, %v) is %v, but for %v, %v it is %v", f.whole.name, out, alpha, whole, narrowOut, narrowAlpha, narrow)
			}
			if real := realResult(f.whole.name, y, z, x); !holds(narrow, real) {
				t.Fatalf("%s(%v, %v) is %v, without %v", f.whole.name, narrowOut, narrowAlpha, narrow, real.f)
			}
		}
	}
	for _, f := range []function{distribution(), hidden(), visible(), facing(), second(single(1))} {
		if met[f.name] < 2000 {
			t.Errorf("%s: %d", f.name, met[f.name])
		}
	}
}
