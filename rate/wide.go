package rate

import (
	"cmp"
	"math/bits"

	"tourbillon/api"
	"tourbillon/gear"
)

// wide is an integer in two's complement, its lowest word first. Its 192 bits are enough for an Offset or a Time times two denominators of 2^62, and for a sum of three such products.
type wide [3]uint64

// wideOf returns n as a wide.
func wideOf(n int) wide {
	if n < 0 {
		return wide{-uint64(n)}.negative()
	}
	return wide{uint64(n)}
}

func (a wide) plus(b wide) wide {
	carry := uint64(0)
	for i := range a {
		a[i], carry = bits.Add64(a[i], b[i], carry)
	}
	return a
}

func (a wide) negative() wide {
	for i := range a {
		a[i] = ^a[i]
	}
	return a.plus(wide{1})
}

// times returns a·n. The product of the bit patterns is right for an a below 0 as well, as both are the same modulo 2^192.
func (a wide) times(n int) wide {
	if n < 0 {
		return a.negative().times(-n)
	}
	carry := uint64(0)
	for i := range a {
		high, low := bits.Mul64(a[i], uint64(n))
		sum, more := bits.Add64(low, carry, 0)
		a[i], carry = sum, high+more
	}
	return a
}

func (a wide) below() bool {
	return a[2]>>63 == 1
}

func (a wide) absolute() wide {
	if a.below() {
		return a.negative()
	}
	return a
}

func (a wide) compare(b wide) int {
	if a.below() != b.below() {
		return cmp.Compare(b[2], a[2])
	}
	for i := len(a) - 1; i > 0; i-- {
		if a[i] != b[i] {
			return cmp.Compare(a[i], b[i])
		}
	}
	return cmp.Compare(a[0], b[0])
}

// over returns a/d, and what is left over, for an a that is not below 0 and a d above 0.
func (a wide) over(d int) (wide, int) {
	rest := uint64(0)
	for i := len(a) - 1; i >= 0; i-- {
		a[i], rest = bits.Div64(rest, a[i], uint64(d))
	}
	return a, int(rest)
}

// fraction returns num/(a·b), for a and b from 1 to MaxFrac. What num shares with the one and then what it shares with the other is cancelled: no product of the two is needed before it is as small as it can be.
func fraction(num wide, a, b int) (api.Frac, api.Errno) {
	size, a := cancel(num.absolute(), a)
	size, b = cancel(size, b)
	high, den := bits.Mul64(uint64(a), uint64(b))
	if high > 0 || den > api.MaxFrac || size.compare(wide{api.MaxFrac}) > 0 {
		return api.Frac{}, api.ErrRange
	}
	x := api.Frac{Num: int(size[0]), Den: int(den)}
	if num.below() {
		x.Num = -x.Num
	}
	return x, api.OK
}

// cancel divides num, which is not below 0, and d by all that they share.
func cancel(num wide, d int) (wide, int) {
	_, rest := num.over(d)
	// A divisor of num and d is one of rest and d. Make does not fail, as both are in the range of a Frac.
	lowest, _ := gear.Make(rest, d)
	smaller, _ := num.over(d / lowest.Den)
	return smaller, lowest.Den
}
