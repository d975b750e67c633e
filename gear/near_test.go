package gear_test

import (
	"math"
	"math/big"
	"math/rand"
	"testing"

	"tourbillon/api"
	"tourbillon/gear"
)

func TestBetweenByHand(t *testing.T) {
	const m = api.MaxFrac
	for _, c := range []struct {
		low, high, want api.Frac
	}{
		{fr(1, 3), fr(1, 2), fr(1, 2)},
		{fr(-5, 2), fr(-1, 3), fr(-1, 1)},
		{fr(-1, 1), fr(1, 1), fr(0, 1)},
		{fr(5, 7), fr(3, 4), fr(3, 4)},
		{fr(0, 1), fr(0, 1), fr(0, 1)},
		{fr(0, 1), fr(5, 1), fr(0, 1)},
		{fr(-5, 1), fr(0, 1), fr(0, 1)},
		{fr(-1, m), fr(1, m), fr(0, 1)},
		// Of several integers the one of the least absolute value.
		{fr(2, 1), fr(7, 1), fr(2, 1)},
		{fr(-7, 1), fr(-2, 1), fr(-2, 1)},
		{fr(3, 2), fr(19, 2), fr(2, 1)},
		{fr(-19, 2), fr(-3, 2), fr(-2, 1)},
		// The least Den counts before the absolute value.
		{fr(1, 2), fr(1, 1), fr(1, 1)},
		{fr(2, 5), fr(1, 2), fr(1, 2)},
		{fr(-1, 1), fr(-1, 2), fr(-1, 1)},
		{fr(7, 3), fr(5, 2), fr(5, 2)},
		{fr(31, 10), fr(22, 7), fr(22, 7)},
		{fr(333, 106), fr(355, 113), fr(333, 106)},
		{fr(1, m), fr(1, m), fr(1, m)},
		{fr(1, m), fr(1, m-1), fr(1, m-1)},
		{fr(m-1, m), fr(1, 1), fr(1, 1)},
		{fr(m-2, m-1), fr(m-1, m), fr(m-2, m-1)},
		{fr(m-1, 1), fr(m, 1), fr(m-1, 1)},
		{fr(-m, 1), fr(-m, 1), fr(-m, 1)},
		{fr(-m, 1), fr(1-m, 1), fr(1-m, 1)},
		{fr(-m, 1), fr(m, 1), fr(0, 1)},
		{fr(1, m), fr(m, 1), fr(1, 1)},
		{fr(m-1, 2), fr(m, 1), fr(m/2, 1)},
	} {
		if x, e := gear.Between(c.low, c.high); x != c.want || e != api.OK {
			t.Errorf("Between(%v, %v) = %v, %d", c.low, c.high, x, e)
		}
	}
}

func TestBetweenErrors(t *testing.T) {
	all := samples()
	for _, a := range all {
		for _, b := range all {
			if bigOf(a).Cmp(bigOf(b)) <= 0 {
				continue
			}
			if x, e := gear.Between(a, b); x != (api.Frac{}) || e != api.ErrArg {
				t.Errorf("Between(%v, %v) = %v, %d", a, b, x, e)
			}
		}
	}
}

// simplestOf tries all denominators, and for each all numerators from 0 on away from it.
func simplestOf(low, high api.Frac) api.Frac {
	for den := 1; ; den++ {
		for size := 0; size*low.Den <= den*max(low.Num, -low.Num) || size*high.Den <= den*max(high.Num, -high.Num); size++ {
			for _, num := range []int{size, -size} {
				if num*low.Den >= low.Num*den && num*high.Den <= high.Num*den {
					return fr(num, den)
				}
			}
		}
	}
}

// TestBetweenAll is G2, by trying all fractions.
func TestBetweenAll(t *testing.T) {
	var all []api.Frac
	for num := -17; num <= 17; num++ {
		for den := 1; den <= 9; den++ {
			if gear.Check(fr(num, den)) == api.OK {
				all = append(all, fr(num, den))
			}
		}
	}
	for _, low := range all {
		for _, high := range all {
			if low.Num*high.Den > high.Num*low.Den {
				continue
			}
			if x, e := gear.Between(low, high); x != simplestOf(low, high) || e != api.OK {
				t.Errorf("Between(%v, %v) = %v, %d", low, high, x, e)
			}
		}
	}
}

// parents returns the two fractions that x lies between in the tree of Stern and Brocot: every fraction between them that is not x has a greater Den and a greater Num. x is above 0.
func parents(x api.Frac) (*big.Int, *big.Int, *big.Int, *big.Int) {
	num, den := big.NewInt(int64(x.Num)), big.NewInt(int64(x.Den))
	if x.Den == 1 {
		return new(big.Int).Sub(num, big.NewInt(1)), big.NewInt(1), big.NewInt(1), big.NewInt(0)
	}
	// The left one is a/b with num*b - den*a = 1.
	b := new(big.Int).ModInverse(num, den)
	a := new(big.Int).Mul(num, b)
	a.Sub(a, big.NewInt(1)).Div(a, den)
	return a, b, new(big.Int).Sub(num, a), new(big.Int).Sub(den, b)
}

// beyond reports whether num/den (den may be 0) is to the left of x, or to the right.
func beyond(num, den *big.Int, x api.Frac) int {
	left := new(big.Int).Mul(num, big.NewInt(int64(x.Den)))
	return left.Cmp(new(big.Int).Mul(den, big.NewInt(int64(x.Num))))
}

func checkSimplest(t *testing.T, low, high api.Frac) {
	t.Helper()
	x, e := gear.Between(low, high)
	if e != api.OK || gear.Check(x) != api.OK {
		t.Errorf("Between(%v, %v) = %v, %d", low, high, x, e)
		return
	}
	if high.Num < 0 {
		low, high, x = fr(-high.Num, high.Den), fr(-low.Num, low.Den), fr(-x.Num, x.Den)
	}
	if low.Num <= 0 {
		if x != fr(0, 1) {
			t.Errorf("Between(%v, %v) = %v", low, high, x)
		}
		return
	}
	if bigOf(x).Cmp(bigOf(low)) < 0 || bigOf(x).Cmp(bigOf(high)) > 0 {
		t.Errorf("Between(%v, %v) = %v is not", low, high, x)
		return
	}
	a, b, c, d := parents(x)
	if beyond(a, b, low) >= 0 || beyond(c, d, high) <= 0 {
		t.Errorf("Between(%v, %v) = %v: %v/%v or %v/%v is simpler", low, high, x, a, b, c, d)
	}
}

// TestBetweenGreat is G2 for great numbers: neither parent is within the bounds, so that nothing simpler is.
func TestBetweenGreat(t *testing.T) {
	all := samples()
	r := rand.New(rand.NewSource(3))
	for range 400 {
		all = append(all, random(r, 61))
	}
	for _, a := range all {
		for _, b := range all {
			if bigOf(a).Cmp(bigOf(b)) <= 0 {
				checkSimplest(t, a, b)
			}
		}
	}
	// Bounds next to each other lead deep into the tree.
	for range 20000 {
		num, den := 1+r.Intn(api.MaxFrac-1000), 1+r.Intn(api.MaxFrac-1000)
		a, _ := fracOf(big.NewRat(int64(num), int64(den)))
		b, _ := fracOf(big.NewRat(int64(num+1+r.Intn(900)), int64(den)))
		checkSimplest(t, a, b)
		checkSimplest(t, fr(-b.Num, b.Den), fr(-a.Num, a.Den))
	}
}

func TestNearestByHand(t *testing.T) {
	const m = api.MaxFrac
	for _, c := range []struct {
		x    api.Frac
		most int
		want api.Frac
	}{
		{fr(22, 7), 6, fr(19, 6)},
		{fr(22, 7), 7, fr(22, 7)},
		{fr(22, 7), 1, fr(3, 1)},
		{fr(355, 113), 112, fr(333, 106)},
		{fr(355, 113), 100, fr(311, 99)},
		{fr(0, 1), 1, fr(0, 1)},
		{fr(-5, 1), 1, fr(-5, 1)},
		// Two equally near ones: the lesser Den, on either side.
		{fr(1, 4), 2, fr(0, 1)},
		{fr(3, 4), 2, fr(1, 1)},
		{fr(-1, 4), 2, fr(0, 1)},
		{fr(-3, 4), 2, fr(-1, 1)},
		{fr(5, 12), 3, fr(1, 2)},
		{fr(7, 12), 3, fr(1, 2)},
		{fr(-5, 12), 3, fr(-1, 2)},
		{fr(1, m), m / 2, fr(0, 1)},
		{fr(-1, m), m / 2, fr(0, 1)},
		{fr(m-1, m), m / 2, fr(1, 1)},
		// The same Den: the lesser one.
		{fr(1, 2), 1, fr(0, 1)},
		{fr(3, 2), 1, fr(1, 1)},
		{fr(-1, 2), 1, fr(-1, 1)},
		{fr(-3, 2), 1, fr(-2, 1)},
		{fr(m-1, 2), 1, fr(m/2-1, 1)},
		{fr(1-m, 2), 1, fr(-m/2, 1)},
		// Ends of what is valid.
		{fr(1, m), 1, fr(0, 1)},
		{fr(1, m), m, fr(1, m)},
		{fr(1, m), m - 1, fr(1, m-1)},
		{fr(1, m), m/2 + 1, fr(1, m/2+1)},
		{fr(-1, m), m/2 + 1, fr(-1, m/2+1)},
		{fr(m-1, m), m - 1, fr(m-2, m-1)},
		{fr(m-1, m), m/2 + 1, fr(m/2, m/2+1)},
		{fr(1-m, m), m - 1, fr(2-m, m-1)},
		{fr(m, m-1), m - 2, fr(m-1, m-2)},
		{fr(-m, m-1), m - 2, fr(1-m, m-2)},
		{fr(m, m-1), 1, fr(1, 1)},
		{fr(-m, 3), 1, fr(-m/3, 1)},
		{fr(-m, 3), 2, fr(-(m/3*2 + 1), 2)},
		{fr(m, 3), 2, fr(m/3*2+1, 2)},
		{fr(m-1, 2), 2, fr(m-1, 2)},
		{fr(m, 1), 1, fr(m, 1)},
		{fr(-m, 1), m, fr(-m, 1)},
	} {
		if x, e := gear.Nearest(c.x, c.most); x != c.want || e != api.OK {
			t.Errorf("Nearest(%v, %d) = %v, %d, not %v", c.x, c.most, x, e, c.want)
		}
	}
}

func TestNearestErrors(t *testing.T) {
	for _, x := range samples() {
		for _, most := range []int{0, -1, math.MinInt, api.MaxFrac + 1, math.MaxInt} {
			if n, e := gear.Nearest(x, most); n != (api.Frac{}) || e != api.ErrArg {
				t.Errorf("Nearest(%v, %d) = %v, %d", x, most, n, e)
			}
		}
		if n, e := gear.Nearest(x, api.MaxFrac); n != x || e != api.OK {
			t.Errorf("Nearest(%v, MaxFrac) = %v, %d", x, n, e)
		}
	}
}

// nearestOf tries all denominators.
func nearestOf(x api.Frac, most int) api.Frac {
	var best api.Frac
	var bestOff *big.Rat
	for den := 1; den <= most; den++ {
		down := int(math.Floor(float64(x.Num) * float64(den) / float64(x.Den)))
		for num := down - 1; num <= down+2; num++ {
			off := big.NewRat(int64(num), int64(den))
			off.Sub(off, bigOf(x)).Abs(off)
			if bestOff == nil || off.Cmp(bestOff) < 0 {
				best, bestOff = fr(num, den), off
			}
		}
	}
	return best
}

// TestNearestAll is G3, by trying all fractions.
func TestNearestAll(t *testing.T) {
	for den := 1; den <= 30; den++ {
		for num := -2 * den; num <= 3*den; num++ {
			if gear.Check(fr(num, den)) != api.OK {
				continue
			}
			for most := 1; most <= den+1; most++ {
				if x, e := gear.Nearest(fr(num, den), most); x != nearestOf(fr(num, den), most) || e != api.OK {
					t.Errorf("Nearest(%d/%d, %d) = %v, %d", num, den, most, x, e)
				}
			}
		}
	}
	r := rand.New(rand.NewSource(4))
	for range 1500 {
		x, most := random(r, 14), 1+r.Intn(60)
		if n, e := gear.Nearest(x, most); n != nearestOf(x, most) || e != api.OK {
			t.Errorf("Nearest(%v, %d) = %v, %d", x, most, n, e)
		}
	}
}

// walkNearest goes down the tree of Stern and Brocot step by step, as long as the denominators are small enough.
func walkNearest(x api.Frac, most int) api.Frac {
	whole := new(big.Int).Div(bigOf(x).Num(), bigOf(x).Denom()).Int64()
	a, b, c, d := whole, int64(1), whole+1, int64(1)
	for b+d <= int64(most) {
		middle := big.NewRat(a+c, b+d)
		switch middle.Cmp(bigOf(x)) {
		case 0:
			return fr(int(a+c), int(b+d))
		case -1:
			a, b = a+c, b+d
		case 1:
			c, d = a+c, b+d
		}
	}
	left := new(big.Rat).Sub(bigOf(x), big.NewRat(a, b))
	right := new(big.Rat).Sub(big.NewRat(c, d), bigOf(x))
	if off := left.Cmp(right); off < 0 || off == 0 && b <= d {
		return fr(int(a), int(b))
	}
	return fr(int(c), int(d))
}

// TestNearestGreat is G3 for great numbers.
func TestNearestGreat(t *testing.T) {
	r := rand.New(rand.NewSource(5))
	for range 600 {
		den := 1<<61 + r.Int63n(1<<61)
		var x api.Frac
		if r.Intn(2) == 0 {
			x, _ = fracOf(big.NewRat(r.Int63n(1<<62), den))
		} else {
			x, _ = fracOf(big.NewRat(-r.Int63n(1<<62), den))
		}
		// A long walk along one side would take too long.
		if x.Den < 1<<50 || longWalk(x) {
			continue
		}
		for _, most := range []int{1, 2, 1 + r.Intn(1000), 1 + r.Intn(1<<30), 1 + r.Intn(1<<45), 1 + r.Intn(x.Den), x.Den - 1, x.Den} {
			if n, e := gear.Nearest(x, most); n != walkNearest(x, most) || e != api.OK {
				t.Errorf("Nearest(%v, %d) = %v, %d", x, most, n, e)
			}
		}
	}
	golden := fr(1779979416004714189, 2880067194370816120)
	for most := 1; most < golden.Den/2; most = most*2 + 1 {
		for _, x := range []api.Frac{golden, fr(-golden.Num, golden.Den)} {
			if n, e := gear.Nearest(x, most); n != walkNearest(x, most) || e != api.OK {
				t.Errorf("Nearest(%v, %d) = %v, %d", x, most, n, e)
			}
		}
	}
}

func longWalk(x api.Frac) bool {
	steps, a, b := 0, max(x.Num, -x.Num)%x.Den, x.Den
	for a != 0 && steps < 3000 {
		steps += min(b/a, 3000)
		a, b = b%a, a
	}
	return steps >= 3000
}
