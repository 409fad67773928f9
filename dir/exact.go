package dir

import "math/bits"

func sum(a, b parts) wide {
	if a.nearer(b) {
		a, b = b, a
	}
	x, y := words{a.m, 0}, lowered(b.m, a.exp-b.exp)
	if a.neg == b.neg {
		x = x.plus(y)
	} else {
		x = x.minus(y)
	}
	return wide{a.neg, x, a.exp - 64}
}

// lowered returns m as the upper word, divided by 2^by; m is below 2^53.
func lowered(m uint64, by int) words {
	if by > 64 {
		// All that is left is far below half a unit of the operand that it is lowered to, which has 53 bits then: a 1 has the same effect on what is rounded.
		return words{0, min(m, 1)}
	}
	return words{m >> by, m << (64 - by)}
}

func product(a, b parts) wide {
	return wide{a.neg != b.neg, times(a.m, b.m), a.exp + b.exp}
}

// quotient needs a divisor other than 0.
func quotient(a, b parts) wide {
	// The divisor gets one bit more than what is divided: so the quotient fits into a word, and at most one bit of that is left. The rest stands for all that follows.
	byA := bits.LeadingZeros64(a.m) - 1
	byB := bits.LeadingZeros64(b.m)
	q, rest := bits.Div64(a.m<<byA, 0, b.m<<byB)
	return wide{a.neg != b.neg, words{q, rest}, (a.exp - byA) - (b.exp - byB) - 128}
}

// root needs a number that is not negative.
func root(a parts) wide {
	if a.m == 0 {
		return wide{}
	}
	by := bits.LeadingZeros64(a.m) - 2
	if (a.exp-by)%2 != 0 { // an odd power of 2 has no root among them
		by--
	}
	square := words{a.m << by, 0}
	r := wholeRoot(square)
	rest := uint64(0)
	if times(r, r) != square {
		rest = 1
	}
	return wide{false, words{r, rest}, (a.exp-by-64)/2 - 64}
}

// wholeRoot returns the greatest integer whose square is at most w; w is at least 2^124, and below 2^126.
func wholeRoot(w words) uint64 {
	// Newton's steps come down from above, and stop where they would rise. As r stays at 2^62 or above, no quotient is too great for a word.
	r := uint64(1) << 63
	for {
		q, _ := bits.Div64(w[0], w[1], r)
		next := (r + q) / 2
		if next >= r {
			return r
		}
		r = next
	}
}
