package gear_test

import (
	"maps"
	"math"
	"math/big"
	"math/rand"
	"slices"

	"tourbillon/api"
	"tourbillon/gear"
)

// The tests compare the package with math/big, and with searches through everything there is.

func fr(num, den int) api.Frac { return api.Frac{Num: num, Den: den} }

func bigOf(x api.Frac) *big.Rat {
	return new(big.Rat).SetFrac(big.NewInt(int64(x.Num)), big.NewInt(int64(x.Den)))
}

// fracOf returns what the document says of an exact result: the Frac, or ErrRange.
func fracOf(x *big.Rat) (api.Frac, api.Errno) {
	most := big.NewInt(api.MaxFrac)
	if x.Num().CmpAbs(most) > 0 || x.Denom().Cmp(most) > 0 {
		return api.Frac{}, api.ErrRange
	}
	return fr(int(x.Num().Int64()), int(x.Denom().Int64())), api.OK
}

// malformed returns Fracs that are not valid.
func malformed() []api.Frac {
	return []api.Frac{
		{}, fr(1, 0), fr(0, 2), fr(0, api.MaxFrac), fr(2, 4), fr(-6, 3), fr(1, -2), fr(-1, -1), fr(0, -1), fr(0, math.MinInt), fr(1, math.MinInt),
		fr(api.MaxFrac+1, 1), fr(-api.MaxFrac-1, 1), fr(1, api.MaxFrac+1), fr(math.MinInt, 1), fr(math.MaxInt, 1), fr(1, math.MaxInt),
		fr(math.MinInt, math.MinInt), fr(math.MaxInt, math.MaxInt), fr(api.MaxFrac, api.MaxFrac), fr(api.MaxFrac, 2), fr(1<<40, 1<<20),
	}
}

// samples returns valid fractions, those at the ends of what is valid among them.
func samples() []api.Frac {
	const m = api.MaxFrac
	some := []api.Frac{
		fr(1, 1), fr(2, 1), fr(3, 1), fr(1, 2), fr(1, 3), fr(2, 3), fr(5, 6), fr(22, 7), fr(355, 113), fr(7, 1<<31), fr(1<<31, 7), fr(1<<32, 3),
		fr(m, 1), fr(m-1, 1), fr(1, m), fr(1, m-1), fr(m, m-1), fr(m-1, m), fr(m-2, m-1), fr(m-1, m-2), fr(m/2, 1), fr(1, m/2), fr(m, 3), fr(3, m),
		fr(m-1, 2), fr(2, m-1), fr(m/2+1, m/2), fr(m/2, m/2+1), fr(m/2, m/2-1), fr(3037000499, 3037000500), fr(3037000500, 3037000499), fr(1<<61+1, 1<<61), fr(m-57, m-60),
		fr(1779979416004714189, 2880067194370816120), fr(2880067194370816120, 1779979416004714189), // neighbours in Fibonacci's row
	}
	all := []api.Frac{fr(0, 1)}
	for _, x := range some {
		all = append(all, x, fr(-x.Num, x.Den))
	}
	return all
}

// random returns a valid fraction of so many bits at most.
func random(r *rand.Rand, bits int) api.Frac {
	num := r.Int63n(1 << (1 + r.Intn(bits)))
	den := 1 + r.Int63n(1<<(1+r.Intn(bits))-1)
	if r.Intn(2) == 0 {
		num = -num
	}
	x, _ := fracOf(big.NewRat(num, den))
	return x
}

// trainsOf returns all trains that fit limits.
func trainsOf(l api.Teeth) []api.Train {
	var all []api.Train
	for n := 1; n <= l.Stages; n++ {
		for _, pinions := range rows(l.PinionLow, l.PinionHigh, n) {
			for _, wheels := range rows(l.WheelLow, l.WheelHigh, n) {
				down := slices.Clone(wheels)
				slices.Reverse(down)
				all = append(all, api.Train{Wheels: down, Pinions: pinions})
			}
		}
	}
	return all
}

// rows returns all rows of n numbers that do not fall.
func rows(low, high, n int) [][]int {
	if n == 0 {
		return [][]int{nil}
	}
	var all [][]int
	for first := low; first <= high; first++ {
		for _, rest := range rows(first, high, n-1) {
			all = append(all, append([]int{first}, rest...))
		}
	}
	return all
}

func ratioOf(t api.Train) *big.Rat {
	x := big.NewRat(1, 1)
	for i := range t.Wheels {
		x.Mul(x, big.NewRat(int64(t.Wheels[i]), int64(t.Pinions[i])))
	}
	return x
}

// isBetter is the document's order of trains.
func isBetter(t, u api.Train) bool {
	if len(t.Wheels) != len(u.Wheels) {
		return len(t.Wheels) < len(u.Wheels)
	}
	if a, b := teethOf(t), teethOf(u); a != b {
		return a < b
	}
	if c := slices.Compare(t.Wheels, u.Wheels); c != 0 {
		return c < 0
	}
	return slices.Compare(t.Pinions, u.Pinions) < 0
}

func teethOf(t api.Train) int {
	n := 0
	for i := range t.Wheels {
		n += t.Wheels[i] + t.Pinions[i]
	}
	return n
}

// choice is a ratio that trains have, and the best of these trains.
type choice struct {
	ratio *big.Rat
	train api.Train
}

// choicesOf returns the best train of every ratio that trains within limits have, by rising ratios.
func choicesOf(l api.Teeth) []choice {
	best := map[string]choice{}
	for _, t := range trainsOf(l) {
		ratio := ratioOf(t)
		old, found := best[ratio.String()]
		if !found || isBetter(t, old.train) {
			best[ratio.String()] = choice{ratio, t}
		}
	}
	all := slices.Collect(maps.Values(best))
	slices.SortFunc(all, func(a, b choice) int { return a.ratio.Cmp(b.ratio) })
	return all
}

// bestExact returns the best train of a ratio.
func bestExact(all []choice, target *big.Rat) (api.Train, bool) {
	for _, c := range all {
		if c.ratio.Cmp(target) == 0 {
			return c.train, true
		}
	}
	return api.Train{}, false
}

// bestClosest returns the best train of those nearest to a ratio, and its ratio minus that.
func bestClosest(all []choice, target *big.Rat) (api.Train, *big.Rat) {
	best := all[0]
	for _, c := range all[1:] {
		d := distance(c.ratio, target).Cmp(distance(best.ratio, target))
		if d < 0 || d == 0 && isBetter(c.train, best.train) {
			best = c
		}
		if c.ratio.Cmp(target) > 0 {
			break // all others are farther on the same side
		}
	}
	return best.train, new(big.Rat).Sub(best.ratio, target)
}

func distance(a, b *big.Rat) *big.Rat {
	d := new(big.Rat).Sub(a, b)
	return d.Abs(d)
}

func sameTrain(t, u api.Train) bool {
	return slices.Equal(t.Wheels, u.Wheels) && slices.Equal(t.Pinions, u.Pinions)
}

func isZero(t api.Train) bool { return len(t.Wheels) == 0 && len(t.Pinions) == 0 }

func mustText(x api.Frac) string {
	s, e := gear.Text(x)
	if e != api.OK {
		return "not valid"
	}
	return s
}
