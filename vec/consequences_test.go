package vec_test

import (
	"math"
	"math/big"
	"math/rand/v2"
	"testing"

	"burnish/api"
	"burnish/ival"
	"burnish/vec"
)

// realVec is a vector of real numbers.
type realVec [3]*big.Rat

// inside returns real numbers of the intervals: ends, and some in between.
func inside(r *rand.Rand, a api.Vec) (v realVec) {
	for i, x := range []api.Iv{a.X, a.Y, a.Z} {
		v[i] = realIn(r, x)
	}
	return v
}

func realIn(r *rand.Rand, a api.Iv) *big.Rat {
	wide := new(big.Rat).Sub(fraction(a.Hi), fraction(a.Lo))
	return wide.Mul(wide, big.NewRat(r.Int64N(5), 4)).Add(wide, fraction(a.Lo))
}

func product(x, y *big.Rat) *big.Rat { return new(big.Rat).Mul(x, y) }

func holds(a api.Iv, x *big.Rat) bool {
	return ival.Right(a) && fraction(a.Lo).Cmp(x) <= 0 && x.Cmp(fraction(a.Hi)) <= 0
}

// holdsRoot reports whether a, which is not below 0, has the root of x.
func holdsRoot(a api.Iv, x *big.Rat) bool {
	return ival.Right(a) && a.Lo >= 0 && product(fraction(a.Lo), fraction(a.Lo)).Cmp(x) <= 0 && x.Cmp(product(fraction(a.Hi), fraction(a.Hi))) <= 0
}

func realDot(a, b realVec) *big.Rat {
	sum := new(big.Rat)
	for i := range a {
		sum.Add(sum, product(a[i], b[i]))
	}
	return sum
}

// realOf is the real result; that of Norm is its square.
func realOf(name string, k *big.Rat, a, b realVec) (v realVec) {
	for i := range v {
		x, y, n, m := a[i], b[i], (i+1)%3, (i+2)%3
		switch name {
		case "Add":
			v[i] = new(big.Rat).Add(x, y)
		case "Sub":
			v[i] = new(big.Rat).Sub(x, y)
		case "Neg":
			v[i] = new(big.Rat).Neg(x)
		case "Scale":
			v[i] = product(k, x)
		case "Cross":
			v[i] = new(big.Rat).Sub(product(a[n], b[m]), product(a[m], b[n]))
		default:
			v[i] = new(big.Rat)
		}
	}
	switch name {
	case "Dot":
		v[0] = realDot(a, b)
	case "Norm":
		v[0] = realDot(a, a)
	}
	return v
}

func TestRealResultsAreInP53(t *testing.T) {
	r := rand.New(rand.NewPCG(4, 5))
	for _, o := range operations() {
		for range 1000 {
			k, a, b := anyInterval(r), anyVec(r, anyInterval), anyVec(r, anyInterval)
			var c ival.Calc
			got := o.of(&c, k, a, b)
			if c.Err() != api.OK {
				continue
			}
			real := realOf(o.name, realIn(r, k), inside(r, a), inside(r, b))
			in := holds(got.X, real[0])
			if o.name == "Norm" {
				in = holdsRoot(got.X, real[0])
			}
			if !in || !holds(got.Y, real[1]) || !holds(got.Z, real[2]) {
				t.Fatalf("%s of %v, %v, %v is %v, without %v", o.name, k, a, b, got, real)
			}
		}
	}
}

func TestRealUnitVectorIsInP53(t *testing.T) {
	for _, f := range triples(5, 3000) {
		u, _ := vec.Unit(f)
		real := realVec{fraction(f.X), fraction(f.Y), fraction(f.Z)}
		square := realDot(real, real)
		for i, a := range []api.Iv{u.X, u.Y, u.Z} {
			if real[i].Sign() < 0 {
				a = iv(-a.Hi, -a.Lo+0)
			}
			a.Lo, a.Hi = a.Lo+0, a.Hi+0
			if !holdsRoot(a, new(big.Rat).Quo(product(real[i], real[i]), square)) {
				t.Fatalf("Unit(%v): %v at %d", f, a, i)
			}
		}
	}
}

func TestUnitVectorsP53(t *testing.T) {
	for _, f := range triples(6, 20000) {
		u, err := vec.Unit(f)
		var c ival.Calc
		if n := vec.Norm(&c, u); !ival.Has(n, 1) || c.Err() != api.OK || err != api.OK {
			t.Fatalf("Unit(%v) is %v, %v long", f, u, n)
		}
		for _, a := range []api.Iv{u.X, u.Y, u.Z} {
			if wide, e := ival.Width(a); e != api.OK || wide > power(-48) || a.Lo < -1 || a.Hi > 1 {
				t.Fatalf("Unit(%v): %v", f, u)
			}
		}
	}
}

func TestTimesPowersOfTwoP53(t *testing.T) {
	r := rand.New(rand.NewPCG(7, 5))
	for _, f := range triples(8, 20000) {
		e := r.IntN(129) - 64
		if r.IntN(2) == 0 {
			e = r.IntN(5) - 2
		}
		g := api.F3{X: math.Ldexp(f.X, e), Y: math.Ldexp(f.Y, e), Z: math.Ldexp(f.Z, e)}
		if back := (api.F3{X: math.Ldexp(g.X, -e), Y: math.Ldexp(g.Y, -e), Z: math.Ldexp(g.Z, -e)}); back != f {
			continue // too small to have this power of two
		}
		greatest := max(math.Abs(g.X), math.Abs(g.Y), math.Abs(g.Z))
		if greatest < power(-64) || greatest > power(64) {
			checkNone(t, []api.F3{g})
			continue
		}
		u, _ := vec.Unit(f)
		if v, err := vec.Unit(g); !sameVec(u, v) || err != api.OK {
			t.Fatalf("Unit(%v) is %v, but that of %v is %v, %d", f, u, g, v, err)
		}
	}
}

func TestCrossIsOrthogonalP53(t *testing.T) {
	r := rand.New(rand.NewPCG(9, 5))
	for range 20000 {
		a, b := anyVec(r, anyInterval), anyVec(r, anyInterval)
		var c ival.Calc
		cross := vec.Cross(&c, a, b)
		x, y := vec.Dot(&c, cross, a), vec.Dot(&c, cross, b)
		if c.Err() == api.OK && (!ival.Has(x, 0) || !ival.Has(y, 0)) {
			t.Fatalf("Cross of %v and %v is %v: %v, %v", a, b, cross, x, y)
		}
	}
}
