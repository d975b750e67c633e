package gear

import (
	"cmp"
	"math/bits"
)

// wide is a natural number below 2^128: a product of two numerators, or a sum of two such products, does not fit an int.
type wide struct {
	high, low uint64
}

func product(a, b uint64) wide {
	high, low := bits.Mul64(a, b)
	return wide{high, low}
}

func (a wide) plus(b wide) wide {
	low, carry := bits.Add64(a.low, b.low, 0)
	high, _ := bits.Add64(a.high, b.high, carry)
	return wide{high, low}
}

// minus returns a - b, for b that is not above a.
func (a wide) minus(b wide) wide {
	low, borrow := bits.Sub64(a.low, b.low, 0)
	high, _ := bits.Sub64(a.high, b.high, borrow)
	return wide{high, low}
}

func (a wide) compare(b wide) int {
	if a.high != b.high {
		return cmp.Compare(a.high, b.high)
	}
	return cmp.Compare(a.low, b.low)
}

// over returns the whole part of a/d, for d above 0.
func (a wide) over(d uint64) wide {
	low, _ := bits.Div64(a.high%d, a.low, d)
	return wide{a.high / d, low}
}

// rest returns what a/d leaves over, for d above 0.
func (a wide) rest(d uint64) uint64 {
	return bits.Rem64(a.high, a.low, d)
}

// magnitude returns the absolute value of n, also of the least int.
func magnitude(n int) uint64 {
	if n < 0 {
		return -uint64(n)
	}
	return uint64(n)
}

// gcd returns the greatest common divisor; that of 0 and b is b.
func gcd(a, b uint64) uint64 {
	for b != 0 {
		a, b = b, a%b
	}
	return a
}
