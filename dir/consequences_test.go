package dir_test

import (
	"math/rand/v2"
	"testing"

	"burnish/api"
	"burnish/dir"
)

// numbers is the edges, and others behind them.
func numbers(many int) []float64 {
	r := rand.New(rand.NewPCG(7, 8))
	l := edges()
	for range many {
		l = append(l, anyNumber(r))
	}
	return l
}

func eachPair(many int, do func(c pairCall, a, b float64)) {
	l := numbers(many)
	for _, c := range pairCalls() {
		for _, a := range l {
			for _, b := range l {
				if c.name != "Div" || b != 0 {
					do(c, a, b)
				}
			}
		}
	}
}

// opposite is -x, but 0 for 0.
func opposite(x float64) float64 { return 0 - x }

func TestDownAndUpAreNeighboursP14(t *testing.T) {
	check := func(down, up float64, e, f api.Errno) bool {
		if e != api.OK || f != api.OK {
			return e == api.ErrOver && f == api.OK && same(up, -top) || f == api.ErrOver && e == api.OK && same(down, top)
		}
		next, _ := dir.Next(down, true)
		return same(down, up) || same(next, up)
	}
	eachPair(60, func(c pairCall, a, b float64) {
		down, e := c.of(a, b, false)
		up, f := c.of(a, b, true)
		if !check(down, up, e, f) {
			t.Errorf("%s(%g, %g): %g, %d and %g, %d", c.name, a, b, down, e, up, f)
		}
	})
	for _, a := range numbers(2000) {
		if a < 0 {
			continue
		}
		down, e := dir.Sqrt(a, false)
		up, f := dir.Sqrt(a, true)
		if e != api.OK || f != api.OK || !check(down, up, e, f) {
			t.Errorf("Sqrt(%g): %g, %d and %g, %d", a, down, e, up, f)
		}
	}
}

func TestNegativesP14(t *testing.T) {
	eachPair(60, func(c pairCall, a, b float64) {
		other := b
		if c.name == "Add" || c.name == "Sub" {
			other = opposite(b)
		}
		down, e := c.of(opposite(a), other, false)
		up, f := c.of(a, b, true)
		if !same(down, opposite(up)) || e != f {
			t.Errorf("%s(%g, %g): up %g, %d; of the negative down %g, %d", c.name, a, b, up, f, down, e)
		}
	})
}

// sumRank tells sums apart also where there is none: it is -1 below all numbers, 1 above them.
func sumRank(a, b float64, up bool) (int, float64) {
	x, e := dir.Add(a, b, up)
	if e == api.ErrOver && up {
		return 1, 0
	}
	if e == api.ErrOver {
		return -1, 0
	}
	return 0, x
}

func TestGreaterOperandsP14(t *testing.T) {
	l := numbers(60)
	for _, a := range l {
		for _, b := range l {
			for _, up := range []bool{false, true} {
				rank, x := sumRank(a, b, up)
				for _, more := range []float64{power(-1074), power(-60), 1, power(900), top} {
					greater, e := dir.Add(a, more, true)
					if e != api.OK {
						continue
					}
					rank2, y := sumRank(greater, b, up)
					rank3, z := sumRank(b, greater, up)
					if rank2 < rank || y < x && rank2 == rank || rank3 != rank2 || !same(y, z) {
						t.Errorf("%g + %g is %g, but %g + %g is %g", a, b, x, greater, b, y)
					}
				}
			}
		}
	}
}

func TestNoMinusZeroP14(t *testing.T) {
	for _, up := range []bool{false, true} {
		eachPair(60, func(c pairCall, a, b float64) {
			if x, _ := c.of(a, b, up); same(x, minus0) {
				t.Errorf("%s(%g, %g, %t) is -0", c.name, a, b, up)
			}
		})
		for _, a := range numbers(2000) {
			x, _ := dir.Sqrt(a, up)
			y, _ := dir.Next(a, up)
			if same(x, minus0) || same(y, minus0) {
				t.Errorf("Sqrt or Next of %g, %t is -0", a, up)
			}
		}
	}
}
