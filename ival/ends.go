package ival

import (
	"burnish/api"
	"burnish/dir"
)

// end is an end of a result, which waits for the direction in which it is rounded.
type end func(up bool) (float64, api.Errno)

// ends is an end of one operand, and one of another: what is done with both is an end of the result.
type ends struct{ a, b float64 }

func (e ends) sum(up bool) (float64, api.Errno) { return dir.Add(e.a, e.b, up) }

func (e ends) difference(up bool) (float64, api.Errno) { return dir.Sub(e.a, e.b, up) }

func (e ends) product(up bool) (float64, api.Errno) { return dir.Mul(e.a, e.b, up) }

func (e ends) quotient(up bool) (float64, api.Errno) { return dir.Div(e.a, e.b, up) }

func rootOf(x float64) end {
	return func(up bool) (float64, api.Errno) { return dir.Sqrt(x, up) }
}

func single(x float64) api.Iv { return api.Iv{Lo: x, Hi: x} }

// crosses reports whether a has numbers of both signs.
func crosses(a api.Iv) bool { return a.Lo < 0 && a.Hi > 0 }

// inOrder returns which end of a has the least product, or quotient, with a number of b, and which the greatest one; b does not cross 0.
func inOrder(a, b api.Iv) (low, high float64) {
	if b.Lo < 0 {
		return a.Hi, a.Lo
	}
	return a.Lo, a.Hi
}

// endOf returns the upper end of a, or the lower one.
func endOf(a api.Iv, upper bool) float64 {
	if upper {
		return a.Hi
	}
	return a.Lo
}

func negative(a api.Iv) api.Iv {
	// What is subtracted from 0 is exact, and 0 does not become -0.
	return api.Iv{Lo: 0 - a.Hi, Hi: 0 - a.Lo}
}

// magnitude returns all absolute values of the numbers of a.
func magnitude(a api.Iv) api.Iv {
	if a.Lo >= 0 {
		return a
	}
	n := negative(a)
	if a.Hi <= 0 {
		return n
	}
	return api.Iv{Lo: 0, Hi: max(a.Hi, n.Hi)}
}
