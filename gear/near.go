package gear

import "tourbillon/api"

// Between returns the simplest fraction from low to high.
func Between(low, high api.Frac) (api.Frac, api.Errno) {
	if e := checkAll(low, high); e != api.OK {
		return api.Frac{}, e
	}
	switch {
	case compare(low, high) > 0:
		return api.Frac{}, api.ErrArg
	case high.Num < 0:
		return negative(simplest(negative(high), negative(low))), api.OK
	case low.Num <= 0:
		return api.Frac{Num: 0, Den: 1}, api.OK
	}
	return simplest(low, high), api.OK
}

// simplest returns the simplest fraction from low to high, both above 0. It has the least numerator as well as the least denominator, which is why the simplest one of the inverses is the inverse of it. The calls are nested no deeper than Euclid's algorithm has steps.
func simplest(low, high api.Frac) api.Frac {
	whole, rest := low.Num/low.Den, low.Num%low.Den
	if rest == 0 {
		return api.Frac{Num: whole, Den: 1}
	}
	if whole < high.Num/high.Den {
		return api.Frac{Num: whole + 1, Den: 1}
	}
	inverse := simplest(api.Frac{Num: high.Den, Den: high.Num % high.Den}, api.Frac{Num: low.Den, Den: rest})
	return api.Frac{Num: whole*inverse.Num + inverse.Den, Den: inverse.Num}
}

// Nearest returns the fraction nearest to x whose denominator is at most `most`.
func Nearest(x api.Frac, most int) (api.Frac, api.Errno) {
	if e := Check(x); e != api.OK {
		return api.Frac{}, e
	}
	if most < 1 || most > api.MaxFrac {
		return api.Frac{}, api.ErrArg
	}
	if x.Den <= most {
		return x, api.OK
	}
	whole := floor(x)
	near := nearestPart(api.Frac{Num: x.Num - whole*x.Den, Den: x.Den}, most)
	return api.Frac{Num: whole*near.Den + near.Num, Den: near.Den}, api.OK
}

// nearestPart is Nearest of x from 0 up to 1 that has a denominator above `most`. The two candidates are the nearest fractions on either side of x: the last convergent of its continued fraction with a small enough denominator, and the farthest step from the one before it towards the next one.
func nearestPart(x api.Frac, most int) api.Frac {
	before, last := api.Frac{Num: 0, Den: 1}, api.Frac{Num: 1, Den: 0}
	// beforeOff and lastOff are how far x is from the two, times both denominators: Euclid's remainders.
	beforeOff, lastOff := x.Num, x.Den
	for {
		next := step(before, last, beforeOff/lastOff)
		if next.Den > most {
			break
		}
		before, last = last, next
		beforeOff, lastOff = lastOff, beforeOff%lastOff
	}
	count := (most - before.Den) / last.Den
	other := step(before, last, count)
	otherOff := beforeOff - count*lastOff
	// The farther one has the greater Off/Den. If neither is, last has the lesser Den, or it is 0 and other is 1.
	far := product(magnitude(otherOff), magnitude(last.Den)).compare(product(magnitude(lastOff), magnitude(other.Den)))
	if far < 0 {
		return other
	}
	return last
}

// step returns the fraction that is reached from a by count steps of b.
func step(a, b api.Frac, count int) api.Frac {
	return api.Frac{Num: a.Num + count*b.Num, Den: a.Den + count*b.Den}
}
