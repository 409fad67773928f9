package fresnel_test

import (
	"go/ast"
	"go/parser"
	"go/token"
	"math"
	"math/rand/v2"
	"strconv"
	"testing"

	"burnish/api"
	"burnish/ival"
)

// The results are held, bit by bit, against the chapter's tables, which stand here as they stand there, and are read and evaluated.

// row is a row of a table: a name, its value, and whether that is clamped to 0 and 1.
type row struct {
	name, value string
	clamped     bool
}

func dielectric() []row {
	return []row{
		{"g", "sqrt((sqr(n) - 1) + sqr(c))", false},
		{"p", "sqr((g - c) / (g + c))", false},
		{"q", "sqr(((c * (g + c)) - 1) / ((c * (g - c)) + 1))", false},
		{"F", "(0.5 * p) * (1 + q)", true},
	}
}

func conductor() []row {
	return []row{
		{"c2", "sqr(c)", false},
		{"s2", "1 - c2", true},
		{"ek", "sqr(eta) * sqr(k)", false},
		{"t0", "(sqr(eta) - sqr(k)) - s2", false},
		{"ab", "sqrt(sqr(t0) + (4 * ek))", false},
		{"a", "sqrt(0.5 * max(ab + t0, 0))", false},
		{"t1", "ab + c2", false},
		{"t2", "(2 * a) * c", false},
		{"Rs", "(t1 - t2) / (t1 + t2)", true},
		{"t3", "(c2 * ab) + sqr(s2)", false},
		{"t4", "t2 * s2", false},
		{"Rp", "Rs * ((t3 - t4) / (t3 + t4))", true},
		{"F", "0.5 * (Rs + Rp)", false},
	}
}

// evaluated is what a table makes of the named intervals; it is read once for many.
func evaluated(rows []row) func(named map[string]api.Iv) (api.Iv, api.Errno) {
	var values []ast.Expr
	for _, r := range rows {
		e, err := parser.ParseExpr(r.value)
		if err != nil {
			panic(err)
		}
		values = append(values, e)
	}
	return func(named map[string]api.Iv) (api.Iv, api.Errno) {
		var c ival.Calc
		for i, r := range rows {
			v := valueOf(&c, values[i], named)
			if r.clamped {
				v = moved(v)
			}
			named[r.name] = v
		}
		if c.Err() != api.OK {
			return api.Iv{}, c.Err()
		}
		return named["F"], api.OK
	}
}

func valueOf(c *ival.Calc, e ast.Expr, named map[string]api.Iv) api.Iv {
	switch x := e.(type) {
	case *ast.ParenExpr:
		return valueOf(c, x.X, named)
	case *ast.BasicLit:
		f, err := strconv.ParseFloat(x.Value, 64)
		if err != nil {
			panic(err)
		}
		return c.Num(f)
	case *ast.Ident:
		v, ok := named[x.Name]
		if !ok {
			panic(x.Name)
		}
		return v
	case *ast.BinaryExpr:
		a := valueOf(c, x.X, named)
		b := valueOf(c, x.Y, named)
		return map[token.Token]func(a, b api.Iv) api.Iv{token.ADD: c.Add, token.SUB: c.Sub, token.MUL: c.Mul, token.QUO: c.Div}[x.Op](a, b)
	case *ast.CallExpr:
		a := valueOf(c, x.Args[0], named)
		switch x.Fun.(*ast.Ident).Name {
		case "sqr":
			return c.Sqr(a)
		case "sqrt":
			return c.Sqrt(a)
		case "max":
			return c.Max(a, valueOf(c, x.Args[1], named))
		}
	}
	panic(e)
}

// moved is what is clamped to 0 and 1.
func moved(a api.Iv) api.Iv {
	for _, end := range []*float64{&a.Lo, &a.Hi} {
		if *end < 0 {
			*end = 0
		}
		if *end > 1 {
			*end = 1
		}
	}
	return a
}

// anyFrom returns numbers from low to high: those of few digits, of all sizes, next to both ends, and others.
func anyFrom(r *rand.Rand, low, high float64) float64 {
	x := low + (high-low)*r.Float64()
	near := (high - low) * r.Float64() * power(-r.IntN(60))
	switch r.IntN(6) {
	case 0:
		x = low + (high-low)*float64(r.IntN(17))/16
	case 1:
		x = low + near
	case 2:
		x = high - near
	case 3:
		x = math.Float64frombits(math.Float64bits(low) + r.Uint64N(math.Float64bits(high)-math.Float64bits(low)+1))
	}
	return max(low, min(high, x)) // a sum may be rounded beyond them
}

// anyInterval returns single numbers, narrow intervals, and others, from low to high.
func anyInterval(r *rand.Rand, low, high float64) api.Iv {
	x := anyFrom(r, low, high)
	switch r.IntN(4) {
	case 0:
		return single(x)
	case 1:
		return iv(x, min(high, x+(high-low)*r.Float64()*power(-r.IntN(54))))
	}
	y := anyFrom(r, low, high)
	return iv(min(x, y), max(x, y))
}

func anyCosine(r *rand.Rand) api.Iv { return anyInterval(r, 0, 1) }

func anyIndex(r *rand.Rand) api.Iv { return anyInterval(r, 1.0625, 4) }

func anyMetal(r *rand.Rand) api.Iv { return anyInterval(r, 0.0625, 16) }

func TestFormulaP61(t *testing.T) {
	r, wanted := rand.New(rand.NewPCG(1, 6)), evaluated(dielectric())
	for range 20000 {
		cos, n := anyCosine(r), anyIndex(r)
		want, err := wanted(map[string]api.Iv{"c": cos, "n": n})
		checkDielectric(t, cos, n, want, err)
	}
}

func TestFormulaP62(t *testing.T) {
	r, wanted := rand.New(rand.NewPCG(2, 6)), evaluated(conductor())
	times := map[api.Errno]int{}
	for i := range 20000 {
		cos, eta, k := anyCosine(r), anyMetal(r), anyMetal(r)
		if i%20 == 0 {
			cos = iv(power(-r.IntN(1075)), 1) // the last quotient comes to its limits
		}
		want, err := wanted(map[string]api.Iv{"c": cos, "eta": eta, "k": k})
		checkConductor(t, cos, eta, k, want, err)
		times[err]++
	}
	if times[api.OK] < 15000 || times[api.ErrZero] < 100 || times[api.ErrOver] < 10 {
		t.Errorf("%v", times)
	}
}

// Each of these needs a bound of the formula: without it there would be another result, or another error.
func TestEachBoundP62(t *testing.T) {
	wanted := evaluated(conductor())
	for _, x := range []struct{ cos, eta, k api.Iv }{
		{iv(0.25, 0.5), iv(0.5, 2), iv(1, 4)},        // a root of what is from below 0; Rs, Rp beyond both ends
		{single(0), single(1), single(1)},            // Rs up to the next number above 1
		{iv(0.875, 0.9375), iv(1.75, 2), iv(4, 4.5)}, // Rs, Rp up to above 1
		{iv(0.5, 1), iv(1, 1.5), iv(0.0625, 0.25)},   // Rs, Rp from below 0
		{iv(0.4, 0.5), iv(0.25, 0.5), single(1)},     // a root, again
		{iv(0, 0.5), iv(0.0625, 16), iv(0.0625, 16)}, // all of them
	} {
		want, err := wanted(map[string]api.Iv{"c": x.cos, "eta": x.eta, "k": x.k})
		if checkConductor(t, x.cos, x.eta, x.k, want, err); err != api.OK {
			t.Errorf("%v: %d", x, err)
		}
	}
}
