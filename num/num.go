// Package num is layer 1: checked integer arithmetic and rounding (see shared/doc/01-num.md).
package num

import (
	"math"
	"math/bits"
	"strconv"
	"strings"

	"additive/api"
)

// Add returns a + b, or ErrOverflow.
func Add(a, b int) (int, api.Errno) {
	sum := a + b
	// A sum that has wrapped around has the sign of neither operand.
	if (a < 0) == (b < 0) && (sum < 0) != (a < 0) {
		return 0, api.ErrOverflow
	}
	return sum, api.OK
}

// Sub returns a - b, or ErrOverflow.
func Sub(a, b int) (int, api.Errno) {
	difference := a - b
	// Only operands of different signs can leave the range, and then the sign is not that of a.
	if (a < 0) != (b < 0) && (difference < 0) != (a < 0) {
		return 0, api.ErrOverflow
	}
	return difference, api.OK
}

// Mul returns a * b, or ErrOverflow.
func Mul(a, b int) (int, api.Errno) {
	return MulDiv(a, b, 1)
}

// Floor returns a / b, rounded down; or ErrDivide or ErrOverflow.
func Floor(a, b int) (int, api.Errno) {
	quotient, _, e := divide(a, b)
	return quotient, e
}

// Round returns the integer nearest to a / b, the greater one of two with the same distance; or ErrDivide or ErrOverflow.
func Round(a, b int) (int, api.Errno) {
	quotient, rest, e := divide(a, b)
	if e != api.OK {
		return 0, e
	}
	// The rest is compared with what it lacks to b, because its double might not fit.
	if b > 0 && rest >= b-rest || b < 0 && rest <= b-rest {
		quotient++
	}
	return quotient, api.OK
}

// divide returns a / b, rounded down, and the rest, which is between 0 (included) and b (excluded).
func divide(a, b int) (quotient, rest int, e api.Errno) {
	if b == 0 {
		return 0, 0, api.ErrDivide
	}
	if a == math.MinInt && b == -1 {
		return 0, 0, api.ErrOverflow
	}
	quotient, rest = a/b, a%b
	// Go's division rounds toward zero, which is up where the signs of a and b differ.
	if rest != 0 && (rest < 0) != (b < 0) {
		quotient--
		rest += b
	}
	return quotient, rest, api.OK
}

// MulDiv returns a * b / c, rounded down, where only the result must fit; or ErrDivide or ErrOverflow.
func MulDiv(a, b, c int) (int, api.Errno) {
	if c == 0 {
		return 0, api.ErrDivide
	}
	high, low := bits.Mul64(magnitude(a), magnitude(b))
	divisor := magnitude(c)
	// Div64 panics where the quotient does not fit into 64 bits.
	if high >= divisor {
		return 0, api.ErrOverflow
	}
	quotient, rest := bits.Div64(high, low, divisor)
	negative := (a < 0) != (b < 0)
	if negative != (c < 0) {
		return negate(quotient, rest)
	}
	if quotient > math.MaxInt {
		return 0, api.ErrOverflow
	}
	return int(quotient), api.OK
}

// magnitude returns the absolute value of n, which for -2^63 is not an int.
func magnitude(n int) uint64 {
	if n < 0 {
		return -uint64(n)
	}
	return uint64(n)
}

// negate returns the negative of a quotient with a rest, rounded down.
func negate(quotient, rest uint64) (int, api.Errno) {
	const most = 1 << 63 // the magnitude of the least int
	// A rest takes the result one further down.
	if quotient > most || quotient == most && rest > 0 {
		return 0, api.ErrOverflow
	}
	if rest > 0 {
		quotient++
	}
	return int(-quotient), api.OK
}

// Isqrt returns the greatest integer whose square is at most n, or ErrArg if n is negative.
func Isqrt(n int) (int, api.Errno) {
	if n < 0 {
		return 0, api.ErrArg
	}
	if n == 0 {
		return 0, api.OK
	}
	// Newton's method falls toward the root from a power of two above it, and stops falling when it is there.
	root := 1 << ((bits.Len64(uint64(n)) + 1) / 2)
	for {
		next := (root + n/root) / 2
		if next >= root {
			return root, api.OK
		}
		root = next
	}
}

// Clamp returns the greater one of lo and the lesser one of n and hi.
func Clamp(n, lo, hi int) int {
	return max(lo, min(n, hi))
}

// Format returns the text of n.
func Format(n int) string {
	return strconv.Itoa(n)
}

// Parse returns the int whose text is s; or ErrSyntax, or ErrOverflow if s is the text of an integer that does not fit.
func Parse(s string) (int, api.Errno) {
	digits, negative := strings.CutPrefix(s, "-")
	// The value is kept negative, because -2^63 has no positive counterpart.
	value, fits, end := 0, true, 0
scan:
	for ; end < len(digits); end++ {
		c := digits[end]
		switch {
		case c < '0' || c > '9':
			break scan
		case end == 1 && digits[0] == '0':
			break scan
		}
		digit := int(c - '0')
		// An integer that is too big must be read to its end: what follows may be wrong.
		fits = fits && value >= (math.MinInt+digit)/10
		value = 10*value - digit
	}
	if end == 0 || end < len(digits) || negative && digits == "0" {
		return 0, api.ErrSyntax
	}
	if !fits || !negative && value == math.MinInt {
		return 0, api.ErrOverflow
	}
	if negative {
		return value, api.OK
	}
	return -value, api.OK
}
