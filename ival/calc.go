package ival

import "burnish/api"

// Calc keeps the first error of what it worked out. From then on, or if it is nil, all its results are zero.
type Calc struct{ err api.Errno }

// Err returns the error that is kept.
func (c *Calc) Err() api.Errno {
	if c == nil {
		return api.ErrNil
	}
	return c.err
}

// Num returns the interval of x alone.
func (c *Calc) Num(x float64) api.Iv {
	if !c.works() {
		return api.Iv{}
	}
	a, err := Of(x)
	c.err = err
	return a
}

// Add returns all sums.
func (c *Calc) Add(a, b api.Iv) api.Iv {
	if !c.takes(a) || !c.takes(b) {
		return api.Iv{}
	}
	return c.tight(ends{a.Lo, b.Lo}.sum, ends{a.Hi, b.Hi}.sum)
}

// Sub returns all differences.
func (c *Calc) Sub(a, b api.Iv) api.Iv {
	if !c.takes(a) || !c.takes(b) {
		return api.Iv{}
	}
	return c.tight(ends{a.Lo, b.Hi}.difference, ends{a.Hi, b.Lo}.difference)
}

// Mul returns all products.
func (c *Calc) Mul(a, b api.Iv) api.Iv {
	if !c.takes(a) || !c.takes(b) {
		return api.Iv{}
	}
	if crosses(a) && crosses(b) {
		// With any number of b, the least and the greatest product have an end of a.
		all := Hull(c.Mul(single(a.Lo), b), c.Mul(single(a.Hi), b))
		if !c.works() {
			return api.Iv{}
		}
		return all
	}
	if crosses(b) {
		a, b = b, a
	}
	low, high := inOrder(a, b)
	return c.tight(ends{low, endOf(b, low < 0)}.product, ends{high, endOf(b, high >= 0)}.product)
}

// Div returns all quotients.
func (c *Calc) Div(a, b api.Iv) api.Iv {
	if !c.takes(a) || !c.takes(b) {
		return api.Iv{}
	}
	if Has(b, 0) {
		return c.fail(api.ErrZero)
	}
	low, high := inOrder(a, b)
	return c.tight(ends{low, endOf(b, low >= 0)}.quotient, ends{high, endOf(b, high < 0)}.quotient)
}

// Sqr returns all squares.
func (c *Calc) Sqr(a api.Iv) api.Iv {
	if !c.takes(a) {
		return api.Iv{}
	}
	m := magnitude(a)
	return c.tight(ends{m.Lo, m.Lo}.product, ends{m.Hi, m.Hi}.product)
}

// Sqrt returns all roots.
func (c *Calc) Sqrt(a api.Iv) api.Iv {
	if !c.takes(a) {
		return api.Iv{}
	}
	if a.Lo < 0 {
		return c.fail(api.ErrNeg)
	}
	return c.tight(rootOf(a.Lo), rootOf(a.Hi))
}

// Neg returns all negatives.
func (c *Calc) Neg(a api.Iv) api.Iv {
	if !c.takes(a) {
		return api.Iv{}
	}
	return negative(a)
}

// Abs returns all absolute values.
func (c *Calc) Abs(a api.Iv) api.Iv {
	if !c.takes(a) {
		return api.Iv{}
	}
	return magnitude(a)
}

// Min returns all lesser ones of two.
func (c *Calc) Min(a, b api.Iv) api.Iv {
	if !c.takes(a) || !c.takes(b) {
		return api.Iv{}
	}
	return api.Iv{Lo: min(a.Lo, b.Lo), Hi: min(a.Hi, b.Hi)}
}

// Max returns all greater ones of two.
func (c *Calc) Max(a, b api.Iv) api.Iv {
	if !c.takes(a) || !c.takes(b) {
		return api.Iv{}
	}
	return api.Iv{Lo: max(a.Lo, b.Lo), Hi: max(a.Hi, b.Hi)}
}

// works reports whether c is there, and has no error yet.
func (c *Calc) works() bool {
	return c != nil && c.err == api.OK
}

// takes reports whether c works, and with a: if a is not right, that becomes its error.
func (c *Calc) takes(a api.Iv) bool {
	if !c.works() {
		return false
	}
	if !Right(a) {
		c.err = api.ErrIv
	}
	return c.works()
}

func (c *Calc) fail(err api.Errno) api.Iv {
	c.err = err
	return api.Iv{}
}

// tight returns the interval from one end, rounded down, to another one, rounded up.
func (c *Calc) tight(low, high end) api.Iv {
	lo, err := low(false)
	if err != api.OK {
		return c.fail(err)
	}
	hi, err := high(true)
	if err != api.OK {
		return c.fail(err)
	}
	return api.Iv{Lo: lo, Hi: hi}
}
