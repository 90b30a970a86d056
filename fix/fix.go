// Package fix is layer 1: see shared/doc/01-fix.md.
package fix

import (
	"cmp"
	"math"

	"tempera/api"
)

const (
	// maxBits is the most bits that Round takes away: 2^63 is no int any more.
	maxBits = 62
	// maxEnd is the greatest amount of Lerp's ends: it keeps their difference, times One, within an int.
	maxEnd = 1 << 40
)

// Sat holds a number between two.
func Sat[T cmp.Ordered](n, lo, hi T) T {
	// Operators, not min and max: lo goes ahead of hi where they are crossed, and a NaN comes back only as n.
	if n < lo {
		return lo
	}
	if n > hi {
		return hi
	}
	return n
}

// Add adds.
func Add(a, b int) int {
	if b > 0 && a > math.MaxInt-b {
		return math.MaxInt
	}
	if b < 0 && a < math.MinInt-b {
		return math.MinInt
	}
	return a + b
}

// Sub takes away.
func Sub(a, b int) int {
	if b < 0 && a > math.MaxInt+b {
		return math.MaxInt
	}
	if b > 0 && a < math.MinInt+b {
		return math.MinInt
	}
	return a - b
}

// Mul multiplies.
func Mul(a, b int) int {
	if b == 0 {
		return 0
	}
	p := a * b
	// A product that wrapped round does not lead back to a, but for the one whose quotient wraps round too.
	if p/b == a && !wraps(a, b) {
		return p
	}
	if (a < 0) == (b < 0) {
		return math.MaxInt
	}
	return math.MinInt
}

// Floor divides, downwards.
func Floor(a, b int) (int, api.Errno) {
	if b == 0 {
		return 0, api.ErrArg
	}
	if wraps(a, b) {
		return math.MaxInt, api.OK
	}
	q := a / b
	if a%b != 0 && (a < 0) != (b < 0) {
		// Go cuts off towards 0, which is upwards here.
		q--
	}
	return q, api.OK
}

// Ceil divides, upwards.
func Ceil(a, b int) (int, api.Errno) {
	if b == 0 {
		return 0, api.ErrArg
	}
	if wraps(a, b) {
		return math.MaxInt, api.OK
	}
	q := a / b
	if a%b != 0 && (a < 0) == (b < 0) {
		// Go cuts off towards 0, which is downwards here.
		q++
	}
	return q, api.OK
}

// Rem tells what is left.
func Rem(a, b int) (int, api.Errno) {
	if b < 1 {
		return 0, api.ErrArg
	}
	// Not by way of b times Floor, which may lie below all ints.
	r := a % b
	if r < 0 {
		r += b
	}
	return r, api.OK
}

// Round divides by a power of two, to the nearest.
func Round(n, bits int) (int, api.Errno) {
	if bits < 0 || bits > maxBits {
		return 0, api.ErrArg
	}
	if bits == 0 {
		return n, api.OK
	}
	// The highest bit that is cut off says whether a half is reached; adding the half to n might wrap round.
	half := n >> (bits - 1) & 1
	return n>>bits + half, api.OK
}

// Lerp goes from one number to another one.
func Lerp(a, b, t int) (int, api.Errno) {
	if beyond(a) || beyond(b) {
		return 0, api.ErrRange
	}
	way, e := Floor((b-a)*Sat(t, 0, api.One), api.One)
	return a + way, e
}

// wraps tells whether a by b is the one quotient of two ints that is no int: Go answers the least one.
func wraps(a, b int) bool {
	return a == math.MinInt && b == -1
}

// beyond tells whether a number is none of Lerp's ends.
func beyond(n int) bool {
	return n != Sat(n, -maxEnd, maxEnd)
}
