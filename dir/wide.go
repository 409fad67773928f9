package dir

import (
	"math"
	"math/bits"

	"burnish/api"
)

// words is an integer of 128 bits, the upper word first.
type words [2]uint64

func times(a, b uint64) words {
	high, low := bits.Mul64(a, b)
	return words{high, low}
}

func (w words) plus(v words) words {
	low, carry := bits.Add64(w[1], v[1], 0)
	high, _ := bits.Add64(w[0], v[0], carry)
	return words{high, low}
}

func (w words) minus(v words) words {
	low, borrow := bits.Sub64(w[1], v[1], 0)
	high, _ := bits.Sub64(w[0], v[0], borrow)
	return words{high, low}
}

// ahead moves the first bit that is 1 to the front, and returns by how much.
func (w words) ahead() (words, int) {
	if w[0] == 0 {
		by := bits.LeadingZeros64(w[1])
		return words{w[1] << by, 0}, 64 + by
	}
	by := bits.LeadingZeros64(w[0])
	return words{w[0]<<by | w[1]>>(64-by), w[1] << by}, by
}

// wide is what is to be rounded: w times 2^exp, the negative of it if neg.
//
// Where the real number goes on behind the words, their last bits stand for it: they are not all 0, and that is all that rounding down or up asks of bits that it cuts off.
type wide struct {
	neg bool
	w   words
	exp int
}

func (v wide) round(up bool) (float64, api.Errno) {
	if v.w == (words{}) {
		return 0, api.OK
	}
	w, by := v.w.ahead()
	unit := v.exp - by + 64 // the exponent of the upper word
	exp := max(unit+64-digits, leastExp)
	cut := uint(exp - unit)
	m := w[0] >> cut
	away := up != v.neg
	if away && w != (words{m << cut, 0}) {
		m++
	}
	return pack(v.neg, m, exp, away)
}

// pack returns m times 2^exp, m at most 2^53, and at least 2^52 unless exp is leastExp. Beyond all numbers it depends on whether m was rounded away from 0.
func pack(neg bool, m uint64, exp int, away bool) (float64, api.Errno) {
	// The lead bit of m counts as 1 in the exponent's field: so a subnormal number has 0 there, and a carry to 2^53 adds 1. No sum, product or quotient is great enough for the field to wrap round.
	b := uint64(exp-leastExp)<<fieldAt + m
	if b >= overBits {
		if away {
			return 0, api.ErrOver
		}
		b = overBits - 1
	}
	if neg && b != 0 {
		b |= signBit
	}
	return math.Float64frombits(b), api.OK
}
