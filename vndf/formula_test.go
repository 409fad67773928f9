package vndf_test

import (
	"cmp"
	"go/ast"
	"go/parser"
	"go/token"
	"math/rand/v2"
	"strconv"
	"testing"

	"burnish/api"
	"burnish/ggx"
	"burnish/ival"
	"burnish/trig"
	"burnish/unit"
	"burnish/vec"
)

// The results are held, bit by bit, against the chapter's formulas, which stand here as they stand there, and are read and evaluated by what the layers below do.

// row is a name, and its value.
type row struct{ name, value string }

func drawRows() []row {
	return []row{
		{"S", "vector(alpha * out.X, alpha * out.Y, out.Z)"},
		{"V", "clamped(scale(1 / norm(S), S))"},
		{"q", "sqr(V.X) + sqr(V.Y)"},
		{"T", "tangent(V, q)"},
		{"B", "cross(V, T)"},
		{"r", "sqrt(a)"},
		{"t", "r * cos"},
		{"k", "0.5 * (1 + V.Z)"},
		{"b", "((1 - k) * sqrt(max(1 - sqr(t), 0))) + (k * (r * sin))"},
		{"p", "sqrt(max((1 - sqr(t)) - sqr(b), 0))"},
		{"N", "add(add(scale(t, T), scale(b, B)), scale(p, V))"},
		{"M", "vector(alpha * N.X, alpha * N.Y, max(N.Z, 0))"},
		{"normal", "clamped(scale(1 / norm(M), M))"},
	}
}

func densityRows() []row {
	return []row{
		{"dot", "positive(dot(out, normal))"},
		{"density", "((G1 * D) * dot) / out.Z"},
	}
}

// reckoner evaluates rows: what has a name is an interval or a vector.
type reckoner struct {
	ival.Calc
	named map[string]any
	err   api.Errno // which is none of the calculator
}

// evaluated returns what rows make of the named ones; they are read once for many.
func evaluated(rows []row) func(named map[string]any) *reckoner {
	var values []ast.Expr
	for _, r := range rows {
		e, err := parser.ParseExpr(r.value)
		if err != nil {
			panic(err)
		}
		values = append(values, e)
	}
	return func(named map[string]any) *reckoner {
		k := &reckoner{named: named}
		for i, r := range rows {
			k.named[r.name] = k.value(values[i])
		}
		k.err = cmp.Or(k.err, k.Err())
		return k
	}
}

func (k *reckoner) value(e ast.Expr) any {
	switch x := e.(type) {
	case *ast.ParenExpr:
		return k.value(x.X)
	case *ast.BasicLit:
		f, err := strconv.ParseFloat(x.Value, 64)
		if err != nil {
			panic(err)
		}
		return k.Num(f)
	case *ast.Ident:
		return k.named[x.Name]
	case *ast.SelectorExpr:
		v := k.value(x.X).(api.Vec)
		return map[string]api.Iv{"X": v.X, "Y": v.Y, "Z": v.Z}[x.Sel.Name]
	case *ast.BinaryExpr:
		a, b := k.value(x.X).(api.Iv), k.value(x.Y).(api.Iv)
		return map[token.Token]func(a, b api.Iv) api.Iv{token.ADD: k.Add, token.SUB: k.Sub, token.MUL: k.Mul, token.QUO: k.Div}[x.Op](a, b)
	case *ast.CallExpr:
		var given []any
		for _, argument := range x.Args {
			given = append(given, k.value(argument))
		}
		return k.called(x.Fun.(*ast.Ident).Name, given)
	}
	panic(e)
}

func (k *reckoner) called(name string, given []any) any {
	number := func(i int) api.Iv { return given[i].(api.Iv) }
	vector := func(i int) api.Vec { return given[i].(api.Vec) }
	switch name {
	case "sqr":
		return k.Sqr(number(0))
	case "sqrt":
		return k.Sqrt(number(0))
	case "max":
		return k.Max(number(0), number(1))
	case "positive":
		return moved(number(0), 0)
	case "vector":
		return box(number(0), number(1), number(2))
	case "clamped":
		return movedVec(vector(0))
	case "scale":
		return vec.Scale(&k.Calc, number(0), vector(1))
	case "add":
		return vec.Add(&k.Calc, vector(0), vector(1))
	case "cross":
		return vec.Cross(&k.Calc, vector(0), vector(1))
	case "dot":
		return vec.Dot(&k.Calc, vector(0), vector(1))
	case "norm":
		return vec.Norm(&k.Calc, vector(0))
	case "tangent":
		return k.tangent(vector(0), number(1))
	}
	panic(name)
}

func (k *reckoner) tangent(v api.Vec, q api.Iv) api.Vec {
	if q.Hi == 0 {
		return at(1, 0, 0)
	}
	if q.Lo > 0 {
		m := k.Sqrt(q)
		return movedVec(box(k.Div(k.Neg(v.Y), m), k.Div(v.X, m), single(0)))
	}
	k.err = api.ErrZero
	return api.Vec{}
}

// moved is what is clamped to a number and 1.
func moved(a api.Iv, least float64) api.Iv {
	for _, end := range []*float64{&a.Lo, &a.Hi} {
		if *end < least {
			*end = least
		}
		if *end > 1 {
			*end = 1
		}
	}
	return a
}

func movedVec(v api.Vec) api.Vec { return box(moved(v.X, -1), moved(v.Y, -1), moved(v.Z, 0)) }

func (x drawn) names() map[string]any {
	sin, cos, err := trig.SinCos(unit.Of(x.u2))
	if err != api.OK {
		panic(err)
	}
	return map[string]any{"out": x.out, "alpha": x.alpha, "a": unit.Of(x.u1), "sin": sin, "cos": cos}
}

// anyFrom returns numbers from low to high: those of few digits, next to both ends, and others.
func anyFrom(r *rand.Rand, low, high float64) float64 {
	x, wide := low+(high-low)*r.Float64(), high-low
	switch r.IntN(5) {
	case 0:
		x = low + wide*float64(r.IntN(17))/16
	case 1:
		x = low + wide*r.Float64()*power(-r.IntN(60))
	case 2:
		x = high - wide*r.Float64()*power(-r.IntN(60))
	}
	return max(low, min(high, x)) + 0 // a sum may be rounded beyond them
}

// widened returns an interval from low to 1 that has x, and goes on to either side by at most a part of what there is.
func widened(r *rand.Rand, x, low, part float64) api.Iv {
	wide := (1 - low) * part
	return iv(max(low, x-wide*r.Float64())+0, min(1, x+wide*r.Float64())+0)
}

// anyWidth returns by which part intervals are widened: many are numbers, or narrow.
func anyWidth(r *rand.Rand) float64 { return float64(r.IntN(3)) * power(-r.IntN(54)) }

func anyAlpha(r *rand.Rand) api.Iv {
	return widened(r, anyFrom(r, minAlpha, 1), minAlpha, anyWidth(r))
}

// anyUnit returns unit vectors above the horizon.
func anyUnit(r *rand.Rand) api.Vec {
	for {
		v, err := vec.Unit(api.F3{X: anyFrom(r, -1, 1), Y: anyFrom(r, -1, 1), Z: anyFrom(r, 0, 1)})
		if err == api.OK {
			return v
		}
	}
}

// anyOut returns directions: unit vectors, others, those that are straight up, or next to that, and what is next to nothing.
func anyOut(r *rand.Rand) api.Vec {
	x, y, z := anyFrom(r, -1, 1), anyFrom(r, -1, 1), anyFrom(r, 0, 1)
	wide := anyWidth(r)
	switch r.IntN(8) {
	case 0, 1:
		return anyUnit(r)
	case 2:
		return box(single(0), single(0), widened(r, z, 0, wide))
	case 3:
		x, y = 0, 0
	case 4:
		lower := power(-r.IntN(560))
		x, y, wide = x*lower+0, y*lower+0, wide*lower
	case 5:
		lower := power(-500 - r.IntN(60))
		x, y, z, wide = x*lower+0, y*lower+0, z*lower, wide*lower
	}
	return box(widened(r, x, -1, wide), widened(r, y, -1, wide), widened(r, z, 0, wide))
}

// anyDraw returns draws of all sizes, next to all eighths, and others.
func anyDraw(r *rand.Rand) uint64 {
	switch r.IntN(4) {
	case 0:
		return r.Uint64() >> r.IntN(64)
	case 1:
		return r.Uint64N(8)<<61 + r.Uint64()>>r.IntN(64)
	case 2:
		return r.Uint64N(9)<<61 - r.Uint64()>>r.IntN(64)
	}
	return r.Uint64()
}

func anyDrawn(r *rand.Rand) drawn { return drawn{anyOut(r), anyAlpha(r), anyDraw(r), anyDraw(r)} }

// anyAsked has normals that are unit vectors, others, and those that are next to out.
func anyAsked(r *rand.Rand) asked {
	x := asked{anyOut(r), anyUnit(r), anyAlpha(r)}
	switch r.IntN(3) {
	case 0:
		x.normal = anyOut(r)
	case 1:
		wide := anyWidth(r)
		x.normal = box(widened(r, x.out.X.Lo, -1, wide), widened(r, x.out.Y.Lo, -1, wide), widened(r, x.out.Z.Lo, 0, wide))
	}
	return x
}

// met counts what there was to tell apart.
type met struct{ ok, straight, noLength, noTangent, noNormal int }

func (m *met) count(k *reckoner) {
	q := k.named["q"].(api.Iv)
	switch {
	case k.err == api.OK && q.Hi == 0:
		m.straight++
	case k.err == api.OK:
		m.ok++
	case k.Err() == api.OK || q.Hi > 0 && q.Lo == 0:
		m.noTangent++
	case q.Hi > 0:
		m.noNormal++
	default:
		m.noLength++
	}
}

func TestFormulaP131(t *testing.T) {
	r, wanted := rand.New(rand.NewPCG(1, 13)), evaluated(drawRows())
	var m met
	for range 30000 {
		x := anyDrawn(r)
		k := wanted(x.names())
		if k.err != api.OK {
			drawFails(t, x, k.err)
		} else {
			checkDraw(t, x, k.named["normal"].(api.Vec), api.OK)
		}
		if m.count(k); t.Failed() {
			return
		}
	}
	if m.ok < 10000 || m.straight < 1000 || m.noLength < 500 || m.noTangent < 500 || m.noNormal < 50 {
		t.Errorf("%+v", m)
	}
}

func TestFormulaP132(t *testing.T) {
	r, wanted := rand.New(rand.NewPCG(2, 13)), evaluated(densityRows())
	times := map[api.Errno]int{}
	for range 30000 {
		x := anyAsked(r)
		g1, errG1 := ggx.G1(x.out.Z, x.alpha)
		d, errD := ggx.D(x.normal.Z, x.alpha)
		k := wanted(map[string]any{"out": x.out, "normal": x.normal, "G1": g1, "D": d})
		err := cmp.Or(errG1, errD, k.err)
		if err != api.OK {
			densityFails(t, x, err)
		} else {
			checkDensity(t, x, k.named["density"].(api.Iv), api.OK)
		}
		if times[err]++; t.Failed() {
			return
		}
	}
	if times[api.OK] < 15000 || times[api.ErrZero] < 500 || times[api.ErrOver] < 100 {
		t.Errorf("%v", times)
	}
}
