package rate_test

import (
	"math"
	"math/big"
	"math/rand"
	"slices"

	"tourbillon/api"
)

// The tests compare the package with math/big, and with searches through all pairs, triples and runs of readings.

const m = api.MaxReading

func fr(num, den int) api.Frac { return api.Frac{Num: num, Den: den} }

func lineOf(slope, shift api.Frac) api.Line { return api.Line{Slope: slope, Shift: shift} }

// at returns the readings of pairs of Time and Offset.
func at(numbers ...int) []api.Reading {
	var r []api.Reading
	for k := 0; k < len(numbers); k += 2 {
		r = append(r, api.Reading{Time: numbers[k], Offset: numbers[k+1]})
	}
	return r
}

// steps returns n readings at the Times first, first+step and so on.
func steps(n, first, step int, offset func(time int) int) []api.Reading {
	var r []api.Reading
	for k := range n {
		time := first + k*step
		r = append(r, api.Reading{Time: time, Offset: offset(time)})
	}
	return r
}

func zero(int) int { return 0 }

// badReadings returns readings that are not valid.
func badReadings() [][]api.Reading {
	bad := [][]api.Reading{
		nil, {}, at(0, 0), at(0, 0, 0, 0), at(0, 0, 0, 1), at(1, 0, 0, 0), at(0, 0, 1, 0, 1, 0), at(0, 0, 2, 0, 1, 0), at(1, 0, 0, 0, 2, 0), at(m, 0, -m, 0),
		steps(api.MaxReadings+1, 0, 1, zero), steps(1000, -1000, 1, zero),
		append(steps(api.MaxReadings-1, 0, 1, zero), at(0, 0)...), append(steps(api.MaxReadings-1, 0, 1, zero), at(m+1, 0)...),
	}
	for _, n := range []int{m + 1, math.MaxInt, math.MaxInt - 1} {
		bad = append(bad, at(0, 0, n, 0), at(n-1, 0, n, 0), at(-n, 0, 0, 0), at(-n, 0, n, 0), at(0, n, 1, 0), at(0, 0, 1, n), at(0, -n, 1, 0), at(0, 0, 1, -n), at(0, 0, 1, n, 2, 0), at(0, n, 1, n))
	}
	return append(bad, at(math.MinInt, 0, 0, 0), at(math.MinInt, 0, math.MaxInt, 0), at(0, math.MinInt, 1, 0), at(0, 0, 1, math.MinInt), at(0, math.MinInt, 1, math.MaxInt))
}

// badFracs returns Fracs that are not valid.
func badFracs() []api.Frac {
	return []api.Frac{
		{}, fr(1, 0), fr(0, 2), fr(2, 4), fr(1, -2), fr(-1, -1), fr(0, -1), fr(0, math.MinInt), fr(1, math.MinInt), fr(6, 3),
		fr(api.MaxFrac+1, 1), fr(-api.MaxFrac-1, 1), fr(1, api.MaxFrac+1), fr(math.MinInt, 1), fr(math.MaxInt, 1), fr(1, math.MaxInt), fr(api.MaxFrac, 2),
	}
}

// badMosts returns Fracs that are no greatest error.
func badMosts() []api.Frac {
	return append(badFracs(), fr(-1, 1), fr(-1, 2), fr(-1, api.MaxFrac), fr(-api.MaxFrac, 1))
}

// endFracs returns valid fractions at the ends of what is valid, and simple ones.
func endFracs() []api.Frac {
	const f = api.MaxFrac
	var all []api.Frac
	for _, x := range []api.Frac{fr(1, 1), fr(1, 2), fr(f, 1), fr(f-1, 1), fr(1, f), fr(1, f-1), fr(f, f-1), fr(f-1, f), fr(f-3, f-1), fr(f-m, f-m+1), fr(f-2, 3), fr(3, f-2), fr(f/2, 3), fr(1<<32, 1<<31+1), fr(1, 1<<31), fr(5, 1<<61), fr(f-1, m)} {
		all = append(all, x, fr(-x.Num, x.Den))
	}
	return append(all, fr(0, 1))
}

// randomReadings returns n readings with Times and Offsets that are small numbers, great ones, or on a line but for a few.
func randomReadings(r *rand.Rand, n int) []api.Reading {
	width := n + r.Intn(2*n)
	height := 1 + r.Intn(12)
	if r.Intn(3) == 0 {
		width, height = m, m
	}
	var times []int
	for len(times) < n {
		if t := r.Intn(2*width+1) - width; !slices.Contains(times, t) {
			times = append(times, t)
		}
	}
	slices.Sort(times)
	rise, odd := 0, 1
	if r.Intn(3) == 0 && width < m {
		rise, odd = r.Intn(7)-3, 4
	}
	var out []api.Reading
	for _, t := range times {
		offset := rise * t
		if r.Intn(odd) == 0 {
			offset += r.Intn(2*height+1) - height
		}
		out = append(out, api.Reading{Time: t, Offset: offset})
	}
	return out
}

// samples returns valid readings: few and many, small numbers and the greatest ones.
func samples() [][]api.Reading {
	const n = api.MaxReadings
	great := func(time int) int { return m - (time+m)%7 }
	zigzag := func(time int) int {
		if time%2 == 0 {
			return m
		}
		return -m
	}
	all := [][]api.Reading{
		at(0, 0, 1, 1, 2, 0), at(0, 0, 2, 3), at(0, 0, 1, 1, 2, 0, 3, 1), at(-m, -m, m, m), at(-m, m, m, -m), at(-m, -m, 0, m, m, -m), at(-m, m, 0, -m, m, m),
		at(-m, -m, -m+1, m, m, m), at(-m, m, m-1, m, m, -m), at(-m, 0, -m+1, m, m-1, -m, m, 0), at(m-1, -m, m, m), at(m-2, m, m-1, -m, m, m), at(-m, 7, m-1, 7, m, 7),
		steps(n, 0, 1, zero), steps(n, -m, 1, great), steps(n, m-n+1, 1, great), steps(n, m-n+1, 1, zigzag), steps(n, -m, 1, zigzag), steps(n, -m, 2*m/(n-1), great),
		steps(n, -31, 1, func(time int) int { return time * time }), steps(n, -31, 1, func(time int) int { return 1000 - time*time }), steps(n, -31, 1, func(time int) int { return 5*time - 3 }),
		steps(n, -31, 1, func(time int) int { return time * time * time }), steps(n, 0, 1, func(time int) int { return time % 2 }), steps(n, 0, 1, func(time int) int { return time / 8 }),
	}
	r := rand.New(rand.NewSource(3))
	for n := 2; n <= api.MaxReadings; n++ {
		all = append(all, randomReadings(r, n))
	}
	for range 600 {
		all = append(all, randomReadings(r, 2+r.Intn(10)))
	}
	return all
}

func bigOf(x api.Frac) *big.Rat {
	return new(big.Rat).SetFrac(big.NewInt(int64(x.Num)), big.NewInt(int64(x.Den)))
}

func whole(n int) *big.Rat { return new(big.Rat).SetInt64(int64(n)) }

// fits reports whether a fraction is the one that a Frac can hold.
func fits(x *big.Rat) bool {
	most := big.NewInt(api.MaxFrac)
	return x.Num().CmpAbs(most) <= 0 && x.Denom().Cmp(most) <= 0
}

// fracsOf returns what the document says of exact results: the Fracs, or ErrRange.
func fracsOf(numbers ...*big.Rat) ([]api.Frac, api.Errno) {
	var all []api.Frac
	for _, x := range numbers {
		if !fits(x) {
			return make([]api.Frac, len(numbers)), api.ErrRange
		}
		all = append(all, fr(int(x.Num().Int64()), int(x.Denom().Int64())))
	}
	return all, api.OK
}

// bigLine is a line with exact numbers.
type bigLine struct {
	slope, shift *big.Rat
}

// frac returns what a function returns whose result is the line.
func (l bigLine) frac() (api.Line, api.Errno) {
	all, e := fracsOf(l.slope, l.shift)
	return lineOf(all[0], all[1]), e
}

// off returns the error of the line at a reading.
func (l bigLine) off(x api.Reading) *big.Rat {
	height := new(big.Rat).Mul(l.slope, whole(x.Time))
	height.Add(height, l.shift)
	return height.Sub(whole(x.Offset), height)
}

// worst returns the line's greatest absolute error.
func (l bigLine) worst(r []api.Reading) *big.Rat {
	worst := new(big.Rat)
	for _, x := range r {
		if off := l.off(x); off.Abs(off).Cmp(worst) > 0 {
			worst = off
		}
	}
	return worst
}

func bigLineOf(l api.Line) bigLine { return bigLine{bigOf(l.Slope), bigOf(l.Shift)} }

// through returns the slope of the line through two readings.
func through(x, y api.Reading) *big.Rat {
	return new(big.Rat).SetFrac(big.NewInt(int64(y.Offset-x.Offset)), big.NewInt(int64(y.Time-x.Time)))
}

// bent returns the least greatest error of a line at three readings, as a numerator and a denominator: half of how far the second one is from the line through the other two.
func bent(x, y, z api.Reading) (int, int) {
	run := z.Time - x.Time
	off := (y.Offset-x.Offset)*run - (z.Offset-x.Offset)*(y.Time-x.Time)
	return max(off, -off), 2 * run
}

// leastError returns the least greatest error of all lines: that of the three readings for which it is greatest.
func leastError(r []api.Reading) *big.Rat {
	worst := new(big.Rat)
	num, den := 0, 1
	for i := range r {
		for j := i + 1; j < len(r); j++ {
			for k := j + 1; k < len(r); k++ {
				// Two quotients of different triples may be too great for int, multiplied: floats say which ones are surely less.
				n, d := bent(r[i], r[j], r[k])
				if float64(n)/float64(d) < 0.999*float64(num)/float64(den) {
					continue
				}
				if x := big.NewRat(int64(n), int64(d)); x.Cmp(worst) > 0 {
					worst, num, den = x, n, d
				}
			}
		}
	}
	return worst
}
