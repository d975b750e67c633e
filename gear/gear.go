// Package gear is layer 1: exact fractions, the simplest and the nearest ones, and trains of wheels for a ratio.
package gear

import (
	"cmp"
	"strconv"
	"strings"

	"tourbillon/api"
)

// Make returns num/den in lowest terms.
func Make(num, den int) (api.Frac, api.Errno) {
	if den == 0 {
		return api.Frac{}, api.ErrZero
	}
	n, d := magnitude(num), magnitude(den)
	shared := gcd(n, d)
	return fraction((num < 0) != (den < 0), wide{low: n / shared}, wide{low: d / shared})
}

// Check returns ErrForm unless x is valid.
func Check(x api.Frac) api.Errno {
	if x.Den < 1 || x.Den > api.MaxFrac || x.Num < -api.MaxFrac || x.Num > api.MaxFrac {
		return api.ErrForm
	}
	if gcd(magnitude(x.Num), magnitude(x.Den)) != 1 {
		return api.ErrForm
	}
	return api.OK
}

// Add returns a + b.
func Add(a, b api.Frac) (api.Frac, api.Errno) {
	if e := checkAll(a, b); e != api.OK {
		return api.Frac{}, e
	}
	return sum(a, b)
}

// Sub returns a - b.
func Sub(a, b api.Frac) (api.Frac, api.Errno) {
	if e := checkAll(a, b); e != api.OK {
		return api.Frac{}, e
	}
	return sum(a, negative(b))
}

// Mul returns a·b.
func Mul(a, b api.Frac) (api.Frac, api.Errno) {
	if e := checkAll(a, b); e != api.OK {
		return api.Frac{}, e
	}
	return times(a, b)
}

// Div returns a/b.
func Div(a, b api.Frac) (api.Frac, api.Errno) {
	if e := checkAll(a, b); e != api.OK {
		return api.Frac{}, e
	}
	if b.Num == 0 {
		return api.Frac{}, api.ErrZero
	}
	inverse := api.Frac{Num: b.Den, Den: b.Num}
	if b.Num < 0 {
		inverse = api.Frac{Num: -b.Den, Den: -b.Num}
	}
	return times(a, inverse)
}

// Cmp returns -1, 0 or 1 as a is less than, equal to or greater than b.
func Cmp(a, b api.Frac) (int, api.Errno) {
	if e := checkAll(a, b); e != api.OK {
		return 0, e
	}
	return compare(a, b), api.OK
}

// Floor returns the greatest integer that is not above x.
func Floor(x api.Frac) (int, api.Errno) {
	if e := Check(x); e != api.OK {
		return 0, e
	}
	return floor(x), api.OK
}

// Text returns x as text, such as -3/4 or 5.
func Text(x api.Frac) (string, api.Errno) {
	if e := Check(x); e != api.OK {
		return "", e
	}
	if x.Den == 1 {
		return strconv.Itoa(x.Num), api.OK
	}
	return strconv.Itoa(x.Num) + "/" + strconv.Itoa(x.Den), api.OK
}

// Parse returns the fraction whose text is s.
func Parse(s string) (api.Frac, api.Errno) {
	top, bottom, slash := strings.Cut(s, "/")
	if !slash {
		bottom = "1"
	}
	num, numErr := strconv.Atoi(top)
	den, denErr := strconv.Atoi(bottom)
	if numErr != nil || denErr != nil {
		return api.Frac{}, api.ErrForm
	}
	x := api.Frac{Num: num, Den: den}
	// Atoi also reads texts that Text never writes (+1, 007, -0): only what is written back is a fraction's text.
	if text, e := Text(x); e != api.OK || text != s {
		return api.Frac{}, api.ErrForm
	}
	return x, api.OK
}

// checkAll returns ErrForm unless all fractions are valid.
func checkAll(fractions ...api.Frac) api.Errno {
	for _, x := range fractions {
		if e := Check(x); e != api.OK {
			return e
		}
	}
	return api.OK
}

// sum returns a + b. Only the part that the denominators share can be cancelled from the numerators' sum, so that the denominator needs no more than it has in the end (Knuth, 4.5.1).
func sum(a, b api.Frac) (api.Frac, api.Errno) {
	aDen, bDen := magnitude(a.Den), magnitude(b.Den)
	shared := gcd(aDen, bDen)
	left := product(magnitude(a.Num), bDen/shared)
	right := product(magnitude(b.Num), aDen/shared)
	minus, top := a.Num < 0, wide{}
	switch {
	case minus == (b.Num < 0):
		top = left.plus(right)
	case left.compare(right) >= 0:
		top = left.minus(right)
	default:
		minus, top = !minus, right.minus(left)
	}
	cancelled := gcd(top.rest(shared), shared)
	return fraction(minus, top.over(cancelled), product(aDen/shared, bDen/cancelled))
}

// times returns a·b: what is cancelled across leaves nothing to cancel in the products.
func times(a, b api.Frac) (api.Frac, api.Errno) {
	aNum, aDen := magnitude(a.Num), magnitude(a.Den)
	bNum, bDen := magnitude(b.Num), magnitude(b.Den)
	down, up := gcd(aNum, bDen), gcd(bNum, aDen)
	minus := (a.Num < 0) != (b.Num < 0)
	return fraction(minus, product(aNum/down, bNum/up), product(aDen/up, bDen/down))
}

// compare is Cmp of fractions that need not be in lowest terms, with denominators above 0.
func compare(a, b api.Frac) int {
	if (a.Num < 0) != (b.Num < 0) {
		return cmp.Compare(a.Num, b.Num)
	}
	left := product(magnitude(a.Num), magnitude(b.Den))
	right := product(magnitude(b.Num), magnitude(a.Den))
	if a.Num < 0 {
		return right.compare(left)
	}
	return left.compare(right)
}

// floor returns the greatest integer that is not above x.
func floor(x api.Frac) int {
	whole := x.Num / x.Den
	if x.Num%x.Den < 0 {
		whole--
	}
	return whole
}

// negative returns -x, which is valid as x is.
func negative(x api.Frac) api.Frac {
	return api.Frac{Num: -x.Num, Den: x.Den}
}

// fraction returns the fraction num/den, which is in lowest terms already, or -num/den.
func fraction(minus bool, num, den wide) (api.Frac, api.Errno) {
	most := wide{low: api.MaxFrac}
	if num.compare(most) > 0 || den.compare(most) > 0 {
		return api.Frac{}, api.ErrRange
	}
	x := api.Frac{Num: int(num.low), Den: int(den.low)}
	if minus {
		x = negative(x)
	}
	return x, api.OK
}
