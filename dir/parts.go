package dir

import "math"

// How a float64 is laid out.
const (
	digits    = 53    // of the integer by which a number is a multiple of a power of 2
	fieldAt   = 52    // where the exponent's field begins
	leastExp  = -1074 // of the power of 2 that all numbers are multiples of
	signBit   = uint64(1) << 63
	leadBit   = uint64(1) << fieldAt     // is not written in a number that is not subnormal
	overBits  = uint64(0x7ff) << fieldAt // from here on there are no numbers any more
	fractBits = leadBit - 1              // what is written of the integer
)

// parts is a number that is taken apart: m times 2^exp, the negative of it if neg. Here m is below 2^53, and at least 2^52 unless exp is leastExp.
type parts struct {
	neg bool
	m   uint64
	exp int
}

func split(x float64) parts {
	b := math.Float64bits(x)
	p := parts{neg: b&signBit != 0, m: b & fractBits, exp: leastExp}
	if field := (b &^ signBit) >> fieldAt; field != 0 {
		p.m |= leadBit
		p.exp += int(field) - 1
	}
	return p
}

func (p parts) negative() parts {
	p.neg = !p.neg
	return p
}

// nearer reports whether p is nearer to 0 than q.
func (p parts) nearer(q parts) bool {
	return p.exp < q.exp || p.exp == q.exp && p.m < q.m
}
