// Package wide is layer 1: see shared/doc/01-wide.md.
package wide

import (
	"math"
	"math/bits"
)

// partBits is how many bits Part tells.
const partBits = 32

// Int is a number of 128 bits: Hi times 2^64, and Lo. Each number has one form only, so that == compares numbers.
type Int struct {
	Hi int64
	Lo uint64
}

// Of makes a number wide.
func Of(n int64) Int {
	return Int{Hi: n >> 63, Lo: uint64(n)}
}

// Mul multiplies.
func Mul(a, b int64) Int {
	hi, lo := bits.Mul64(uint64(a), uint64(b))
	// Without its sign a negative factor is 2^64 too great, and that adds the other factor to the upper half.
	if a < 0 {
		hi -= uint64(b)
	}
	if b < 0 {
		hi -= uint64(a)
	}
	return Int{Hi: int64(hi), Lo: lo}
}

// Add adds; false tells that the sum does not fit.
func Add(a, b Int) (Int, bool) {
	sum := plus(a, b)
	// Only a sum of two of one sign can leave the range, and what leaves it comes back with the other sign.
	if (a.Hi < 0) == (b.Hi < 0) && (sum.Hi < 0) != (a.Hi < 0) {
		return Int{}, false
	}
	return sum, true
}

// Neg turns the sign; false tells that the result does not fit.
func Neg(a Int) (Int, bool) {
	// The least number alone has no opposite.
	if a == (Int{Hi: math.MinInt64}) {
		return Int{}, false
	}
	return minus(Int{}, a), true
}

// Sign tells the sign.
func Sign(a Int) int {
	return Cmp(a, Int{})
}

// Cmp compares.
func Cmp(a, b Int) int {
	switch {
	case a == b:
		return 0
	case a.Hi < b.Hi || a.Hi == b.Hi && a.Lo < b.Lo:
		return -1
	}
	return 1
}

// Div divides, and rounds to the nearest integer, a half to the even one; false tells that there is no such int64.
func Div(a Int, b int64) (int64, bool) {
	hi, lo := size(a)
	_, by := size(Of(b))
	// An upper half this great (or any, by 0) makes a quotient of more than 64 bits, for which bits.Div64 panics.
	if hi >= by {
		return 0, false
	}
	q, rest := bits.Div64(hi, lo, by)
	// A greater quotient fits with neither sign; told here, it cannot wrap to 0 where it is rounded up.
	if q > 1<<63 {
		return 0, false
	}
	// Rounding the size rounds both signs alike: the nearest and the even integers lie the same on either side of 0.
	if up := by - rest; rest > up || rest == up && q&1 == 1 {
		q++
	}
	return signed(q, (a.Hi < 0) != (b < 0))
}

// Root tells the greatest integer whose square is at most a; 0 for a negative one.
func Root(a Int) uint64 {
	if Sign(a) <= 0 {
		return 0
	}
	hi, lo := size(a)
	// Newton's steps from above the root fall as long as they are above it, and never below it.
	root := aboveRoot(hi, lo)
	for {
		q, _ := bits.Div64(hi, lo, root)
		if q >= root {
			return root
		}
		root = q + (root-q)/2 // the mean of both, as their sum may not fit
	}
}

// Part tells a divided by b in parts of 2^32, rounded down; 0 unless a is at least 0 and less than b.
func Part(a, b Int) uint32 {
	if Sign(a) < 0 || Cmp(a, b) >= 0 {
		return 0
	}
	part := uint32(0)
	for range partBits {
		part <<= 1
		// Twice a may not fit, so that a is held against what it lacks to b: twice a less b is a less that.
		if lack := minus(b, a); Cmp(a, lack) < 0 {
			a = plus(a, a)
		} else {
			a = minus(a, lack)
			part++
		}
	}
	return part
}

// plus adds; what leaves the range wraps round.
func plus(a, b Int) Int {
	lo, carry := bits.Add64(a.Lo, b.Lo, 0)
	return Int{Hi: a.Hi + b.Hi + int64(carry), Lo: lo}
}

// minus subtracts; what leaves the range wraps round.
func minus(a, b Int) Int {
	lo, borrow := bits.Sub64(a.Lo, b.Lo, 0)
	return Int{Hi: a.Hi - b.Hi - int64(borrow), Lo: lo}
}

// size tells a number without its sign, as halves without one, which hold the least number's size too.
func size(a Int) (hi, lo uint64) {
	if a.Hi < 0 {
		a = minus(Int{}, a)
	}
	return uint64(a.Hi), a.Lo
}

// signed gives a size its sign; false tells that the result is not an int64.
func signed(n uint64, negative bool) (int64, bool) {
	switch {
	case negative && n <= 1<<63:
		return -int64(n), true // -2^63 is its own opposite
	case !negative && n < 1<<63:
		return int64(n), true
	}
	return 0, false
}

// aboveRoot tells a number above the square root of a number that is greater than 0 and less than 2^127: a power of two of half its bits, as far as 64 bits hold it.
func aboveRoot(hi, lo uint64) uint64 {
	long := bits.Len64(lo)
	if hi != 0 {
		long = 64 + bits.Len64(hi)
	}
	half := (long + 1) / 2
	if half == 64 {
		return math.MaxUint64
	}
	return 1 << half
}
