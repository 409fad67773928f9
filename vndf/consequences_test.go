package vndf_test

import (
	"iter"
	"math/rand/v2"
	"testing"

	"burnish/api"
	"burnish/ggx"
	"burnish/ival"
	"burnish/trig"
	"burnish/unit"
	"burnish/vec"
)

func meet(a, b api.Iv) bool {
	_, common := ival.Meet(a, b)
	return common
}

// normals yields what has no error, of what is drawn at random, with its normal.
func normals(t *testing.T, seed uint64, random func(r *rand.Rand) drawn) iter.Seq2[drawn, api.Vec] {
	const tries = 20000
	return func(yield func(drawn, api.Vec) bool) {
		r := rand.New(rand.NewPCG(seed, 13))
		many := 0
		for range tries {
			x := random(r)
			n, err := x.normal()
			if err != api.OK {
				continue
			}
			if many++; !yield(x, n) {
				return
			}
		}
		if many < tries/2 {
			t.Errorf("without an error: %d", many)
		}
	}
}

// exactly has no intervals but those of unit vectors.
func exactly(r *rand.Rand) drawn {
	return drawn{anyUnit(r), single(anyFrom(r, minAlpha, 1)), anyDraw(r), anyDraw(r)}
}

func exactlyUp(r *rand.Rand) drawn {
	x := exactly(r)
	x.out = up()
	return x
}

func straightAbove(r *rand.Rand) drawn {
	x := anyDrawn(r)
	x.out = box(single(0), single(0), widened(r, anyFrom(r, 0, 1), 0, anyWidth(r)))
	return x
}

// round has the alpha 1.
func round(random func(r *rand.Rand) drawn) func(r *rand.Rand) drawn {
	return func(r *rand.Rand) drawn {
		x := random(r)
		x.alpha = single(1)
		return x
	}
}

func TestLengthP133(t *testing.T) {
	for x, n := range normals(t, 3, anyDrawn) {
		var c ival.Calc
		if length := vec.Norm(&c, n); !ival.Has(length, 1) || c.Err() != api.OK {
			t.Fatalf("%+v: %v has the length %v, %d", x, n, length, c.Err())
		}
	}
}

// Where nothing is wide the length is not, either: next to where the disk ends, the last bits of a square become the middle ones of its root.
func TestLengthIsNarrowP133(t *testing.T) {
	for x, n := range normals(t, 4, exactly) {
		var c ival.Calc
		if length := vec.Norm(&c, n); length.Hi-length.Lo > power(-18) {
			t.Fatalf("%+v: %v has the length %v", x, n, length)
		}
	}
}

func TestAboveTheHorizonP133(t *testing.T) {
	within := func(a api.Iv, least float64) bool { return ival.Right(a) && least <= a.Lo && a.Hi <= 1 }
	for x, n := range normals(t, 5, anyDrawn) {
		if !within(n.X, -1) || !within(n.Y, -1) || !within(n.Z, 0) {
			t.Fatalf("%+v: %v", x, n)
		}
	}
}

func TestVisibleP133(t *testing.T) {
	for x, n := range normals(t, 6, anyDrawn) {
		var c ival.Calc
		if dot := vec.Dot(&c, x.out, n); dot.Hi < 0 || c.Err() != api.OK {
			t.Fatalf("%+v: %v has the cosine %v, %d", x, n, dot, c.Err())
		}
	}
	for x, n := range normals(t, 7, exactly) {
		var c ival.Calc
		if dot := vec.Dot(&c, x.out, n); dot.Lo < -power(-20) {
			t.Fatalf("%+v: %v has the cosine %v", x, n, dot)
		}
	}
}

// facesAsDrawn reports whether the normals that are less inclined than n cover what the first draw tells, of the surface.
func facesAsDrawn(x drawn, n api.Vec) bool {
	facing, err := ggx.Facing(n.Z, x.alpha)
	return meet(facing, unit.Of(x.u1)) && err == api.OK
}

func TestStraightAboveP133(t *testing.T) {
	for x, n := range normals(t, 8, straightAbove) {
		if !facesAsDrawn(x, n) {
			t.Fatalf("%+v: %v", x, n)
		}
	}
	for x, n := range normals(t, 9, exactlyUp) {
		facing, _ := ggx.Facing(n.Z, x.alpha)
		if !facesAsDrawn(x, n) || facing.Hi-facing.Lo > power(-34) {
			t.Fatalf("%+v: %v, with %v of the surface", x, n, facing)
		}
	}
}

// alongTangent returns how much of the normal is along T; for the alpha 1 that is a direction by X and Y of out alone. There is none if these may be 0, but need not.
func alongTangent(x drawn, n api.Vec) (api.Iv, bool) {
	var c ival.Calc
	m := c.Sqrt(c.Add(c.Sqr(x.out.X), c.Sqr(x.out.Y)))
	if m.Hi == 0 {
		return n.X, true
	}
	along := c.Div(c.Sub(c.Mul(n.Y, x.out.X), c.Mul(n.X, x.out.Y)), m)
	return along, c.Err() == api.OK
}

// asDrawn is t of the chapter.
func asDrawn(x drawn) api.Iv {
	var c ival.Calc
	_, cos, _ := trig.SinCos(unit.Of(x.u2))
	return c.Mul(c.Sqrt(unit.Of(x.u1)), cos)
}

func TestAlongTangentP133(t *testing.T) {
	for _, random := range []func(r *rand.Rand) drawn{anyDrawn, straightAbove} {
		many := 0
		for x, n := range normals(t, 10, round(random)) {
			along, ok := alongTangent(x, n)
			if ok && !meet(along, asDrawn(x)) {
				t.Fatalf("%+v: %v has %v along the tangent; drawn: %v", x, n, along, asDrawn(x))
			}
			if ok {
				many++
			}
		}
		if many < 10000 {
			t.Errorf("with a tangent: %d", many)
		}
	}
	for x, n := range normals(t, 11, round(exactly)) {
		if along, ok := alongTangent(x, n); !ok || !meet(along, asDrawn(x)) || along.Hi-along.Lo > power(-20) {
			t.Fatalf("%+v: %v has %v along the tangent; drawn: %v", x, n, along, asDrawn(x))
		}
	}
}
