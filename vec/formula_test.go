package vec_test

import (
	"math"
	"math/big"
	"math/rand/v2"
	"slices"
	"testing"

	"burnish/api"
	"burnish/ival"
	"burnish/vec"
)

// The results are held, bit by bit, against the chapter's formulas, which are computed here with fractions that are rounded then, by a reckoner of the test's own.

func fraction(x float64) *big.Rat { return new(big.Rat).SetFloat64(x) }

// reckoner does what layer 2 asks of a calculator.
type reckoner struct{ err api.Errno }

func (r *reckoner) takes(l ...api.Iv) bool {
	for _, a := range l {
		if r.err == api.OK && !ival.Right(a) {
			r.err = api.ErrIv
		}
	}
	return r.err == api.OK
}

func (r *reckoner) fails(err api.Errno) api.Iv {
	r.err = err
	return api.Iv{}
}

// tight is the interval of all these, rounded to either side.
func (r *reckoner) tight(l ...*big.Rat) api.Iv {
	least, greatest := slices.MinFunc(l, (*big.Rat).Cmp), slices.MaxFunc(l, (*big.Rat).Cmp)
	if least.Cmp(fraction(-top)) < 0 || greatest.Cmp(fraction(top)) > 0 {
		return r.fails(api.ErrOver)
	}
	lo, _ := least.Float64()
	if fraction(lo).Cmp(least) > 0 {
		lo = math.Nextafter(lo, math.Inf(-1))
	}
	hi, _ := greatest.Float64()
	if fraction(hi).Cmp(greatest) < 0 {
		hi = math.Nextafter(hi, math.Inf(1))
	}
	return iv(lo+0, hi+0) // not -0
}

// corners is tight around what an operation makes of the ends: the extremes are there for all that stand here.
func (r *reckoner) corners(a, b api.Iv, of func(z, x, y *big.Rat) *big.Rat) api.Iv {
	if !r.takes(a, b) {
		return api.Iv{}
	}
	var l []*big.Rat
	for _, x := range []float64{a.Lo, a.Hi} {
		for _, y := range []float64{b.Lo, b.Hi} {
			l = append(l, of(new(big.Rat), fraction(x), fraction(y)))
		}
	}
	return r.tight(l...)
}

func (r *reckoner) plus(a, b api.Iv) api.Iv { return r.corners(a, b, (*big.Rat).Add) }

func (r *reckoner) minus(a, b api.Iv) api.Iv { return r.corners(a, b, (*big.Rat).Sub) }

func (r *reckoner) times(a, b api.Iv) api.Iv { return r.corners(a, b, (*big.Rat).Mul) }

// over is asked for divisors above 0 alone.
func (r *reckoner) over(a, b api.Iv) api.Iv { return r.corners(a, b, (*big.Rat).Quo) }

func (r *reckoner) negative(a api.Iv) api.Iv { return r.minus(api.Iv{}, a) }

func (r *reckoner) square(a api.Iv) api.Iv {
	if !r.takes(a) {
		return api.Iv{}
	}
	low, high := fraction(a.Lo), fraction(a.Hi)
	l := []*big.Rat{low.Mul(low, low), high.Mul(high, high)}
	if a.Lo <= 0 && a.Hi >= 0 {
		l = append(l, new(big.Rat))
	}
	return r.tight(l...)
}

// root is asked for what is not below 0 alone; the library's root is the nearest number.
func (r *reckoner) root(a api.Iv) api.Iv {
	if !r.takes(a) {
		return api.Iv{}
	}
	square := func(x float64) *big.Rat { return new(big.Rat).Mul(fraction(x), fraction(x)) }
	lo, hi := math.Sqrt(a.Lo), math.Sqrt(a.Hi)
	if square(lo).Cmp(fraction(a.Lo)) > 0 {
		lo = math.Nextafter(lo, 0)
	}
	if square(hi).Cmp(fraction(a.Hi)) < 0 {
		hi = math.Nextafter(hi, top)
	}
	return iv(lo, hi)
}

// wanted is what the chapter asks of an operation, one step behind the other.
func wanted(r *reckoner, name string, k api.Iv, a, b api.Vec) (v api.Vec) {
	switch name {
	case "Add":
		v.X = r.plus(a.X, b.X)
		v.Y = r.plus(a.Y, b.Y)
		v.Z = r.plus(a.Z, b.Z)
	case "Sub":
		v.X = r.minus(a.X, b.X)
		v.Y = r.minus(a.Y, b.Y)
		v.Z = r.minus(a.Z, b.Z)
	case "Neg":
		v.X = r.negative(a.X)
		v.Y = r.negative(a.Y)
		v.Z = r.negative(a.Z)
	case "Scale":
		v.X = r.times(k, a.X)
		v.Y = r.times(k, a.Y)
		v.Z = r.times(k, a.Z)
	case "Dot":
		x := r.times(a.X, b.X)
		y := r.times(a.Y, b.Y)
		xy := r.plus(x, y)
		z := r.times(a.Z, b.Z)
		v.X = r.plus(xy, z)
	case "Norm":
		x := r.square(a.X)
		y := r.square(a.Y)
		xy := r.plus(x, y)
		z := r.square(a.Z)
		v.X = r.root(r.plus(xy, z))
	case "Cross":
		yz, zy := r.times(a.Y, b.Z), r.times(a.Z, b.Y)
		v.X = r.minus(yz, zy)
		zx, xz := r.times(a.Z, b.X), r.times(a.X, b.Z)
		v.Y = r.minus(zx, xz)
		xy, yx := r.times(a.X, b.Y), r.times(a.Y, b.X)
		v.Z = r.minus(xy, yx)
	}
	return v
}

func wantedUnit(f api.F3) api.Vec {
	var r reckoner
	a := at(f.X, f.Y, f.Z)
	n := wanted(&r, "Norm", api.Iv{}, a, a).X
	part := func(x api.Iv) api.Iv {
		q := r.over(x, n)
		return iv(max(q.Lo, -1), min(q.Hi, 1))
	}
	return api.Vec{X: part(a.X), Y: part(a.Y), Z: part(a.Z)}
}

// anyNumber returns numbers of all sizes, near 1, with few digits, and 0.
func anyNumber(r *rand.Rand) float64 {
	sign := float64(1 - 2*r.IntN(2))
	switch r.IntN(6) {
	case 0:
		return sign*float64(r.IntN(10)) + 0
	case 1:
		return sign*math.Ldexp(r.Float64(), r.IntN(1200)-1140) + 0
	case 2:
		return sign*float64(r.IntN(64))*tiny + 0
	}
	return sign*r.Float64() + 0
}

func anyInterval(r *rand.Rand) api.Iv {
	x, y := anyNumber(r), anyNumber(r)
	switch r.IntN(3) {
	case 0:
		y = x
	case 1:
		y = math.Nextafter(x, top) + 0
	}
	return iv(min(x, y), max(x, y))
}

func anyVec(r *rand.Rand, of func(r *rand.Rand) api.Iv) api.Vec {
	return api.Vec{X: of(r), Y: of(r), Z: of(r)}
}

// anyTrouble returns intervals that are often not right, or too great for products, or for sums.
func anyTrouble(r *rand.Rand) api.Iv {
	switch r.IntN(8) {
	case 0:
		return wrongOnes()[r.IntN(len(wrongOnes()))]
	case 1:
		return single(float64(1-2*r.IntN(2)) * top)
	case 2:
		return single(float64(1-2*r.IntN(2)) * (1 + r.Float64()) * power(511))
	case 3:
		return iv(-power(1023), power(1000+r.IntN(24)))
	}
	return single(float64(r.IntN(7) - 3))
}

func checkFormula(t *testing.T, o operation, k api.Iv, a, b api.Vec) api.Errno {
	t.Helper()
	var c ival.Calc
	var r reckoner
	got, want := o.of(&c, k, a, b), wanted(&r, o.name, k, a, b)
	if !sameVec(got, want) || c.Err() != r.err {
		t.Fatalf("%s of %v, %v, %v: %v, %d; want %v, %d", o.name, k, a, b, got, c.Err(), want, r.err)
	}
	return r.err
}

func TestFormulasP52(t *testing.T) {
	r := rand.New(rand.NewPCG(1, 5))
	for _, o := range operations() {
		for range 1500 {
			checkFormula(t, o, anyInterval(r), anyVec(r, anyInterval), anyVec(r, anyInterval))
		}
	}
}

func TestFormulasWithErrorsP52(t *testing.T) {
	r := rand.New(rand.NewPCG(2, 5))
	for _, o := range operations() {
		times := map[api.Errno]int{}
		for range 4000 {
			times[checkFormula(t, o, anyTrouble(r), anyVec(r, anyTrouble), anyVec(r, anyTrouble))]++
		}
		if times[api.OK] < 100 || times[api.ErrIv] < 100 || times[api.ErrOver] < 100 && o.name != "Neg" {
			t.Errorf("%s: %v", o.name, times)
		}
	}
}

// anyTriple returns triples that have a unit vector; one of the three is not small.
func anyTriple(r *rand.Rand) api.F3 {
	l := []float64{anyNumber(r), anyNumber(r), anyNumber(r)}
	for i, x := range l {
		if math.Abs(x) > power(64) {
			l[i] = 1
		}
	}
	great := float64(1-2*r.IntN(2)) * (1 + r.Float64()) / 2
	if r.IntN(3) == 0 {
		great = math.Ldexp(great, r.IntN(127)-62)
	}
	l[r.IntN(3)] = great
	return api.F3{X: l[0], Y: l[1], Z: l[2]}
}

func triples(seed uint64, many int) []api.F3 {
	r := rand.New(rand.NewPCG(seed, 6))
	var l []api.F3
	for _, x := range []float64{0, tiny, -power(-600), power(-64), -1, 3, power(64)} {
		for _, y := range []float64{0, -tiny, power(-537), power(-64), 4, -power(64)} {
			for _, z := range []float64{-power(-64), 1, 12, -power(64)} {
				l = append(l, api.F3{X: x, Y: y, Z: z}, api.F3{X: z, Y: y, Z: x}, api.F3{X: x, Y: z, Z: y})
			}
		}
	}
	for range many {
		l = append(l, anyTriple(r))
	}
	return l
}

func TestUnitByTheFormulaP51(t *testing.T) {
	for _, f := range triples(3, 3000) {
		if got, err := vec.Unit(f); !sameVec(got, wantedUnit(f)) || err != api.OK {
			t.Fatalf("Unit(%v): %v, %d; want %v", f, got, err, wantedUnit(f))
		}
	}
}
