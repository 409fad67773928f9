package vndf

import (
	"burnish/api"
	"burnish/ival"
	"burnish/vec"
)

// With the surface stretched until it is smooth, its mirrors are a half of a sphere, and those that are visible cover a disk, on which every point is equally likely: one is drawn there, goes up to the sphere, and is stretched back.

// stretched returns the direction of d, with what it has along the surface times alpha.
func stretched(c *ival.Calc, d api.Vec, alpha api.Iv) api.Vec {
	s := api.Vec{X: c.Mul(alpha, d.X), Y: c.Mul(alpha, d.Y), Z: d.Z}
	return direction(vec.Scale(c, c.Div(c.Num(1), vec.Norm(c, s)), s))
}

// onSphere returns the point N that is drawn for v: a tells how far from the middle of the disk, sin and cos to which side. The names are the chapter's, but for along and across, which are T and B there.
func onSphere(c *ival.Calc, v api.Vec, a, sin, cos api.Iv) api.Vec {
	one, zero := c.Num(1), c.Num(0)
	along := tangent(c, v)
	across := vec.Cross(c, v, along)
	r := c.Sqrt(a)
	t := c.Mul(r, cos)
	k := c.Mul(c.Num(0.5), c.Add(one, v.Z))
	rest := c.Sub(one, c.Sqr(t))
	b := c.Add(c.Mul(c.Sub(one, k), c.Sqrt(c.Max(rest, zero))), c.Mul(k, c.Mul(r, sin)))
	p := c.Sqrt(c.Max(c.Sub(rest, c.Sqr(b)), zero))
	return sum(c, vec.Scale(c, t, along), vec.Scale(c, b, across), vec.Scale(c, p, v))
}

// tangent returns a direction along the surface that is at right angles to v. Where v may be straight up, but may be another one, too, m contains 0: so the quotients have the ErrZero that the chapter asks for.
func tangent(c *ival.Calc, v api.Vec) api.Vec {
	q := c.Add(c.Sqr(v.X), c.Sqr(v.Y))
	if q.Hi == 0 {
		return api.Vec{X: c.Num(1)}
	}
	m := c.Sqrt(q)
	return direction(api.Vec{X: c.Div(c.Neg(v.Y), m), Y: c.Div(v.X, m)})
}

// sum returns the sum of all, added from left to right.
func sum(c *ival.Calc, first api.Vec, others ...api.Vec) api.Vec {
	for _, v := range others {
		first = vec.Add(c, first, v)
	}
	return first
}

// direction returns v with the ends that are beyond those of all directions moved there.
func direction(v api.Vec) api.Vec {
	return api.Vec{X: clamped(v.X, -1, 1), Y: clamped(v.Y, -1, 1), Z: clamped(v.Z, 0, 1)}
}

// clamped returns a with each end that is not from least to greatest moved there: unlike ival.Meet, it always leaves something.
func clamped(a api.Iv, least, greatest float64) api.Iv {
	return api.Iv{Lo: min(max(a.Lo, least), greatest), Hi: min(max(a.Hi, least), greatest)}
}
