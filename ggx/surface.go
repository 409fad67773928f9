package ggx

import (
	"burnish/api"
	"burnish/ival"
)

// surface is one of tiny mirrors, with the cosines that it is asked about, and the calculator that goes through its formulas. Where there is only one cosine it is out; in is left free: 0, which is within the limits.
type surface struct {
	ival.Calc
	alpha, in, out api.Iv
}

// answer returns what a formula of this surface comes to, or the error of what the surface was given, which keeps the formula from being asked.
func (s *surface) answer(formula func() api.Iv) (api.Iv, api.Errno) {
	if err := s.check(); err != api.OK {
		return api.Iv{}, err
	}
	return formula(), s.Err()
}

// check returns the error of what was given: all has to be right before any is held against its limits.
func (s *surface) check() api.Errno {
	if !ival.Right(s.in) || !ival.Right(s.out) || !ival.Right(s.alpha) {
		return api.ErrIv
	}
	if !within(s.in, 0, 1) || !within(s.out, 0, 1) || !within(s.alpha, api.MinAlpha, 1) {
		return api.ErrArg
	}
	return api.OK
}

func within(a api.Iv, least, greatest float64) bool {
	return least <= a.Lo && a.Hi <= greatest
}

// In the formulas the names, and the order of all steps, are the chapter's, so that both can be read side by side.

func (s *surface) distribution() api.Iv {
	return s.Div(s.a2(), s.Mul(ival.Pi(), s.Sqr(s.spread())))
}

func (s *surface) facing() api.Iv {
	return s.Div(s.Sub(s.Num(1), s.Sqr(s.out)), s.spread())
}

func (s *surface) hidden() api.Iv {
	return s.lambda(s.out)
}

func (s *surface) visible() api.Iv {
	return s.Div(s.Num(1), s.Add(s.Num(1), s.lambda(s.out)))
}

func (s *surface) visibleForTwo() api.Iv {
	return s.Div(s.Num(1), s.Add(s.Add(s.Num(1), s.lambda(s.in)), s.lambda(s.out)))
}

func (s *surface) lambda(cos api.Iv) api.Iv {
	one := s.Num(1)
	t := s.Div(s.Sub(one, s.Sqr(cos)), s.Sqr(cos))
	return notBelow0(s.Mul(s.Num(0.5), s.Sub(s.Sqrt(s.Add(one, s.Mul(s.a2(), t))), one)))
}

// spread returns what both the distribution and Facing divide by: it falls from 1, at the cosine 0, to a2, at 1.
func (s *surface) spread() api.Iv {
	one := s.Num(1)
	return s.Add(s.Mul(s.Sub(s.a2(), one), s.Sqr(s.out)), one)
}

func (s *surface) a2() api.Iv {
	return s.Sqr(s.alpha)
}

// notBelow0 is what the chapter asks for, though it never changes anything: Lambda's root is of what is at least 1, and rounding down leaves that so.
func notBelow0(a api.Iv) api.Iv {
	return api.Iv{Lo: max(a.Lo, 0), Hi: max(a.Hi, 0)}
}
