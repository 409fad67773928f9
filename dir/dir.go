// Package dir is layer 1: see shared/doc/01-dir.md. It computes sums, products, quotients and roots that are rounded down or up.
//
// All is done with integers: the processor's own sums and products are rounded to the nearest number, and do not tell to which side they went.
package dir

import (
	"math"

	"burnish/api"
)

// Right reports whether x is a number: finite, and not -0.
func Right(x float64) bool {
	b := math.Float64bits(x)
	return b&^signBit < overBits && b != signBit
}

// Add returns a + b, rounded up or down.
func Add(a, b float64, up bool) (float64, api.Errno) {
	if !Right(a) || !Right(b) {
		return 0, api.ErrNum
	}
	return sum(split(a), split(b)).round(up)
}

// Sub returns a - b, rounded up or down.
func Sub(a, b float64, up bool) (float64, api.Errno) {
	if !Right(a) || !Right(b) {
		return 0, api.ErrNum
	}
	return sum(split(a), split(b).negative()).round(up)
}

// Mul returns a * b, rounded up or down.
func Mul(a, b float64, up bool) (float64, api.Errno) {
	if !Right(a) || !Right(b) {
		return 0, api.ErrNum
	}
	return product(split(a), split(b)).round(up)
}

// Div returns a / b, rounded up or down.
func Div(a, b float64, up bool) (float64, api.Errno) {
	if !Right(a) || !Right(b) {
		return 0, api.ErrNum
	}
	if b == 0 {
		return 0, api.ErrZero
	}
	return quotient(split(a), split(b)).round(up)
}

// Sqrt returns the root of a, rounded up or down.
func Sqrt(a float64, up bool) (float64, api.Errno) {
	if !Right(a) {
		return 0, api.ErrNum
	}
	if a < 0 {
		return 0, api.ErrNeg
	}
	return root(split(a)).round(up)
}

// Next returns the least number above x, or the greatest one below it.
func Next(x float64, up bool) (float64, api.Errno) {
	// No two numbers are closer to each other than the least step: so one step goes beyond x, but never beyond its neighbour.
	step := math.SmallestNonzeroFloat64
	if !up {
		step = -step
	}
	return Add(x, step, up)
}
