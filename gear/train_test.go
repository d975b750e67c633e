package gear_test

import (
	"math"
	"math/big"
	"math/rand"
	"slices"
	"testing"

	"tourbillon/api"
	"tourbillon/gear"
)

func TestMeet(t *testing.T) {
	if a, b, e := gear.Meet(60, 8); a != 2 || b != 15 || e != api.OK {
		t.Errorf("Meet(60, 8) = %d, %d, %d", a, b, e)
	}
	for wheel := 1; wheel <= api.MaxTeeth; wheel++ {
		for pinion := 1; pinion <= api.MaxTeeth; pinion++ {
			want := 1
			for want*wheel%pinion != 0 {
				want++
			}
			a, b, e := gear.Meet(wheel, pinion)
			if a != want || b != want*wheel/pinion || e != api.OK {
				t.Fatalf("Meet(%d, %d) = %d, %d, %d", wheel, pinion, a, b, e)
			}
		}
	}
	for _, bad := range []int{0, -1, -60, api.MaxTeeth + 1, math.MinInt, math.MaxInt} {
		for _, good := range []int{1, 60, api.MaxTeeth, bad} {
			if a, b, e := gear.Meet(bad, good); a != 0 || b != 0 || e != api.ErrArg {
				t.Errorf("Meet(%d, %d) = %d, %d, %d", bad, good, a, b, e)
			}
			if a, b, e := gear.Meet(good, bad); a != 0 || b != 0 || e != api.ErrArg {
				t.Errorf("Meet(%d, %d) = %d, %d, %d", good, bad, a, b, e)
			}
		}
	}
}

func of(n, count int) []int {
	return slices.Repeat([]int{n}, count)
}

func TestRatio(t *testing.T) {
	for _, c := range []struct {
		wheels, pinions []int
		want            api.Frac
		e               api.Errno
	}{
		{[]int{60, 60}, []int{6, 10}, fr(60, 1), api.OK},
		{[]int{8}, []int{60}, fr(2, 15), api.OK},
		{[]int{1}, []int{1}, fr(1, 1), api.OK},
		// No order and no limits of a search are asked for.
		{[]int{3, 200, 7}, []int{9, 1, 5}, fr(4200, 45), api.OK},
		{of(200, 6), of(1, 6), fr(64000000000000, 1), api.OK},
		{of(1, 6), of(200, 6), fr(1, 64000000000000), api.OK},
		{of(199, 6), of(200, 6), fr(62103840598801, 64000000000000), api.OK},
		{nil, nil, api.Frac{}, api.ErrArg},
		{[]int{}, []int{}, api.Frac{}, api.ErrArg},
		{of(2, 7), of(2, 7), api.Frac{}, api.ErrArg},
		{of(2, 7), of(2, 6), api.Frac{}, api.ErrArg},
		{of(2, 6), of(2, 7), api.Frac{}, api.ErrArg},
		{of(2, 2), of(2, 1), api.Frac{}, api.ErrArg},
		{of(2, 1), of(2, 2), api.Frac{}, api.ErrArg},
		{of(2, 1), nil, api.Frac{}, api.ErrArg},
		{nil, of(2, 1), api.Frac{}, api.ErrArg},
		{[]int{0}, []int{1}, api.Frac{}, api.ErrArg},
		{[]int{1}, []int{0}, api.Frac{}, api.ErrArg},
		{[]int{-3}, []int{-3}, api.Frac{}, api.ErrArg},
		{[]int{3}, []int{-3}, api.Frac{}, api.ErrArg},
		{[]int{-3}, []int{3}, api.Frac{}, api.ErrArg},
		{[]int{201}, []int{1}, api.Frac{}, api.ErrArg},
		{[]int{1}, []int{201}, api.Frac{}, api.ErrArg},
		{[]int{1, 1, 0}, []int{1, 1, 1}, api.Frac{}, api.ErrArg},
		{[]int{1, 1, 1}, []int{1, 1, 201}, api.Frac{}, api.ErrArg},
		{[]int{math.MinInt}, []int{math.MaxInt}, api.Frac{}, api.ErrArg},
	} {
		want := c.want
		if c.e == api.OK {
			want, _ = fracOf(bigOf(c.want))
		}
		if x, e := gear.Ratio(api.Train{Wheels: c.wheels, Pinions: c.pinions}); x != want || e != c.e {
			t.Errorf("Ratio(%v, %v) = %v, %d", c.wheels, c.pinions, x, e)
		}
	}
	r := rand.New(rand.NewSource(6))
	for range 2000 {
		var x api.Train
		for range 1 + r.Intn(6) {
			x.Wheels, x.Pinions = append(x.Wheels, 1+r.Intn(200)), append(x.Pinions, 1+r.Intn(200))
		}
		want, _ := fracOf(ratioOf(x))
		if ratio, e := gear.Ratio(x); ratio != want || e != api.OK {
			t.Errorf("Ratio(%v) = %v, %d", x, ratio, e)
		}
	}
}

// invalidLimits returns limits with one thing wrong each.
func invalidLimits() []api.Teeth {
	return []api.Teeth{
		{},
		{WheelLow: 0, WheelHigh: 20, PinionLow: 6, PinionHigh: 10, Stages: 2},
		{WheelLow: -5, WheelHigh: 20, PinionLow: 6, PinionHigh: 10, Stages: 2},
		{WheelLow: 60, WheelHigh: 59, PinionLow: 6, PinionHigh: 10, Stages: 2},
		{WheelLow: 60, WheelHigh: 124, PinionLow: 6, PinionHigh: 10, Stages: 2},
		{WheelLow: 1, WheelHigh: 65, PinionLow: 6, PinionHigh: 10, Stages: 1},
		{WheelLow: 138, WheelHigh: 201, PinionLow: 6, PinionHigh: 10, Stages: 1},
		{WheelLow: 201, WheelHigh: 201, PinionLow: 6, PinionHigh: 10, Stages: 1},
		{WheelLow: math.MinInt, WheelHigh: math.MaxInt, PinionLow: 6, PinionHigh: 10, Stages: 1},
		{WheelLow: math.MinInt, WheelHigh: 10, PinionLow: 6, PinionHigh: 10, Stages: 1},
		{WheelLow: math.MaxInt, WheelHigh: math.MaxInt, PinionLow: 6, PinionHigh: 10, Stages: 1},
		{WheelLow: math.MaxInt, WheelHigh: math.MinInt, PinionLow: 6, PinionHigh: 10, Stages: 1},
		{WheelLow: 60, WheelHigh: 80, PinionLow: 0, PinionHigh: 10, Stages: 2},
		{WheelLow: 60, WheelHigh: 80, PinionLow: -1, PinionHigh: 1, Stages: 2},
		{WheelLow: 60, WheelHigh: 80, PinionLow: 6, PinionHigh: 5, Stages: 2},
		{WheelLow: 60, WheelHigh: 80, PinionLow: 6, PinionHigh: 18, Stages: 2},
		{WheelLow: 60, WheelHigh: 80, PinionLow: 190, PinionHigh: 201, Stages: 2},
		{WheelLow: 60, WheelHigh: 80, PinionLow: 201, PinionHigh: 201, Stages: 2},
		{WheelLow: 60, WheelHigh: 80, PinionLow: math.MinInt, PinionHigh: math.MaxInt, Stages: 2},
		{WheelLow: 60, WheelHigh: 80, PinionLow: math.MaxInt, PinionHigh: math.MinInt, Stages: 2},
		{WheelLow: 60, WheelHigh: 80, PinionLow: 6, PinionHigh: 10, Stages: 0},
		{WheelLow: 60, WheelHigh: 80, PinionLow: 6, PinionHigh: 10, Stages: 4},
		{WheelLow: 60, WheelHigh: 80, PinionLow: 6, PinionHigh: 10, Stages: -1},
		{WheelLow: 60, WheelHigh: 80, PinionLow: 6, PinionHigh: 10, Stages: math.MinInt},
		{WheelLow: 60, WheelHigh: 80, PinionLow: 6, PinionHigh: 10, Stages: math.MaxInt},
	}
}

// validEnds returns limits at the ends of what is valid, with a single stage mostly.
func validEnds() []api.Teeth {
	return []api.Teeth{
		{WheelLow: 1, WheelHigh: 1, PinionLow: 1, PinionHigh: 1, Stages: 1},
		{WheelLow: 1, WheelHigh: 1, PinionLow: 1, PinionHigh: 1, Stages: 3},
		{WheelLow: 200, WheelHigh: 200, PinionLow: 200, PinionHigh: 200, Stages: 3},
		{WheelLow: 1, WheelHigh: 64, PinionLow: 1, PinionHigh: 12, Stages: 1},
		{WheelLow: 137, WheelHigh: 200, PinionLow: 189, PinionHigh: 200, Stages: 1},
		{WheelLow: 60, WheelHigh: 123, PinionLow: 6, PinionHigh: 17, Stages: 1},
		{WheelLow: 199, WheelHigh: 200, PinionLow: 1, PinionHigh: 2, Stages: 3},
	}
}

func TestLimits(t *testing.T) {
	train := api.Train{Wheels: []int{60, 60}, Pinions: []int{6, 10}}
	for _, l := range invalidLimits() {
		if ok, e := gear.Fits(train, l); ok || e != api.ErrArg {
			t.Errorf("Fits(%v) = %v, %d", l, ok, e)
		}
		if x, e := gear.Exact(fr(60, 1), l); !isZero(x) || e != api.ErrArg {
			t.Errorf("Exact(%v) = %v, %d", l, x, e)
		}
		if x, off, e := gear.Closest(fr(60, 1), l); !isZero(x) || off != (api.Frac{}) || e != api.ErrArg {
			t.Errorf("Closest(%v) = %v, %v, %d", l, x, off, e)
		}
	}
	for _, l := range validEnds() {
		for _, w := range []int{l.WheelLow, l.WheelHigh} {
			for _, p := range []int{l.PinionLow, l.PinionHigh} {
				checkEnd(t, api.Train{Wheels: []int{w}, Pinions: []int{p}}, l)
			}
		}
	}
}

// checkEnd checks a train of one stage with the greatest and least teeth that there are: no other one of one stage has its ratio and as few teeth, unless it is reduced.
func checkEnd(t *testing.T, x api.Train, l api.Teeth) {
	if ok, e := gear.Fits(x, l); !ok || e != api.OK {
		t.Errorf("Fits(%v, %v) = %v, %d", x, l, ok, e)
	}
	ratio, _ := fracOf(ratioOf(x))
	want, _ := bestExact(choicesOf(l), ratioOf(x))
	if y, e := gear.Exact(ratio, l); !sameTrain(y, want) || e != api.OK {
		t.Errorf("Exact(%v, %v) = %v, %d", ratio, l, y, e)
	}
	if y, off, e := gear.Closest(ratio, l); !sameTrain(y, want) || off != fr(0, 1) || e != api.OK {
		t.Errorf("Closest(%v, %v) = %v, %v, %d", ratio, l, y, off, e)
	}
}

func TestTargets(t *testing.T) {
	l := api.Teeth{WheelLow: 60, WheelHigh: 80, PinionLow: 6, PinionHigh: 10, Stages: 2}
	for _, target := range []api.Frac{fr(0, 1), fr(-60, 1), fr(-1, api.MaxFrac), fr(-api.MaxFrac, 1)} {
		if x, e := gear.Exact(target, l); !isZero(x) || e != api.ErrArg {
			t.Errorf("Exact(%v) = %v, %d", target, x, e)
		}
		if x, off, e := gear.Closest(target, l); !isZero(x) || off != (api.Frac{}) || e != api.ErrArg {
			t.Errorf("Closest(%v) = %v, %v, %d", target, x, off, e)
		}
	}
	for _, target := range []api.Frac{fr(1, 1), fr(1, api.MaxFrac), fr(api.MaxFrac, 1), fr(api.MaxFrac, api.MaxFrac-1), fr(61, 11), fr(6401, 36), fr(59, 10), fr(178, 1), fr(3599, 100)} {
		if x, e := gear.Exact(target, l); !isZero(x) || e != api.ErrNone {
			t.Errorf("Exact(%v) = %v, %d", target, x, e)
		}
	}
}

func TestFits(t *testing.T) {
	l := api.Teeth{WheelLow: 60, WheelHigh: 80, PinionLow: 6, PinionHigh: 10, Stages: 2}
	three := l
	three.Stages = 3
	for _, c := range []struct {
		wheels, pinions []int
		l               api.Teeth
		want            bool
	}{
		{[]int{60, 60}, []int{6, 10}, l, true},
		{[]int{80, 60}, []int{10, 10}, l, true},
		{[]int{60}, []int{6}, l, true},
		{[]int{80}, []int{10}, l, true},
		{[]int{80, 70, 60}, []int{6, 7, 8}, three, true},
		{[]int{80, 80, 80}, []int{6, 6, 6}, three, true},
		{nil, nil, l, false},
		{[]int{}, []int{}, l, false},
		{[]int{80, 70, 60}, []int{6, 7, 8}, l, false},
		{of(70, 4), of(8, 4), three, false},
		{[]int{70}, nil, l, false},
		{nil, []int{8}, l, false},
		{[]int{70, 70}, []int{8}, l, false},
		{[]int{70}, []int{8, 8}, l, false},
		{[]int{59}, []int{8}, l, false},
		{[]int{81}, []int{8}, l, false},
		{[]int{70}, []int{5}, l, false},
		{[]int{70}, []int{11}, l, false},
		{[]int{70, 59}, []int{8, 8}, l, false},
		{[]int{81, 70}, []int{8, 8}, l, false},
		{[]int{70, 70}, []int{5, 8}, l, false},
		{[]int{70, 70}, []int{8, 11}, l, false},
		{[]int{70, 71}, []int{8, 8}, l, false},
		{[]int{70, 70}, []int{8, 7}, l, false},
		{[]int{80, 60, 61}, []int{6, 7, 8}, three, false},
		{[]int{80, 61, 60}, []int{6, 8, 7}, three, false},
		{[]int{math.MinInt}, []int{math.MaxInt}, l, false},
	} {
		if ok, e := gear.Fits(api.Train{Wheels: c.wheels, Pinions: c.pinions}, c.l); ok != c.want || e != api.OK {
			t.Errorf("Fits(%v, %v, %v) = %v, %d", c.wheels, c.pinions, c.l, ok, e)
		}
	}
}

// smallLimits returns limits whose trains are few enough to try all of them.
func smallLimits() []api.Teeth {
	return []api.Teeth{
		{WheelLow: 60, WheelHigh: 80, PinionLow: 6, PinionHigh: 10, Stages: 2},
		{WheelLow: 1, WheelHigh: 9, PinionLow: 1, PinionHigh: 4, Stages: 3},
		{WheelLow: 1, WheelHigh: 4, PinionLow: 1, PinionHigh: 9, Stages: 3},
		{WheelLow: 12, WheelHigh: 20, PinionLow: 11, PinionHigh: 14, Stages: 3},
		{WheelLow: 198, WheelHigh: 200, PinionLow: 189, PinionHigh: 200, Stages: 2},
		{WheelLow: 7, WheelHigh: 7, PinionLow: 1, PinionHigh: 12, Stages: 3},
		{WheelLow: 1, WheelHigh: 64, PinionLow: 5, PinionHigh: 5, Stages: 2},
	}
}

func checkExact(t *testing.T, all []choice, l api.Teeth, target *big.Rat) {
	t.Helper()
	want, found := bestExact(all, target)
	wantE := api.OK
	if !found {
		wantE = api.ErrNone
	}
	x, _ := fracOf(target)
	if got, e := gear.Exact(x, l); !sameTrain(got, want) || e != wantE {
		t.Errorf("Exact(%v, %v) = %v, %d, not %v", target, l, got, e, want)
	}
}

func checkClosest(t *testing.T, all []choice, l api.Teeth, target *big.Rat) {
	t.Helper()
	want, off := bestClosest(all, target)
	wantOff, wantE := fracOf(off)
	if wantE != api.OK {
		want = api.Train{}
	}
	x, _ := fracOf(target)
	if got, gotOff, e := gear.Closest(x, l); !sameTrain(got, want) || gotOff != wantOff || e != wantE {
		t.Errorf("Closest(%v, %v) = %v, %v, %d, not %v, %v, %d", target, l, got, gotOff, e, want, wantOff, wantE)
	}
}

// beside returns a number so little above x that only exact arithmetic tells them apart.
func beside(x *big.Rat) *big.Rat {
	num, den := x.Num().Int64(), x.Denom().Int64()
	return new(big.Rat).Add(x, big.NewRat(1, den*(api.MaxFrac/16/max(num, den))))
}

// TestSearchAll is G4 and G5, by trying all trains: for ratios that there are, for those halfway between two of them, where the better one of two trains is closest, and for those next to halfway.
func TestSearchAll(t *testing.T) {
	r := rand.New(rand.NewSource(7))
	for _, l := range smallLimits() {
		all := choicesOf(l)
		for range 60 {
			i := r.Intn(len(all))
			checkExact(t, all, l, all[i].ratio)
			checkClosest(t, all, l, all[i].ratio)
			checkExact(t, all, l, beside(all[i].ratio))
			checkClosest(t, all, l, beside(all[i].ratio))
			if i == 0 {
				continue
			}
			middle := new(big.Rat).Add(all[i-1].ratio, all[i].ratio)
			middle.Quo(middle, big.NewRat(2, 1))
			more := beside(middle)
			less := new(big.Rat).Sub(middle, new(big.Rat).Sub(more, middle))
			for _, target := range []*big.Rat{middle, less, more} {
				checkExact(t, all, l, target)
				checkClosest(t, all, l, target)
			}
		}
	}
}

// TestSearchFar: targets at the ends of what is valid, where the difference may not be valid.
func TestSearchFar(t *testing.T) {
	const m = api.MaxFrac
	for _, l := range smallLimits() {
		all := choicesOf(l)
		for _, target := range []api.Frac{
			fr(1, m), fr(1, m-1), fr(1, m/2), fr(1, 1<<50), fr(m, 1), fr(m-1, 1), fr(m, 3), fr(m, m-1), fr(m-1, m), fr(m-1, 1<<58), fr(m-1, m/4),
			fr(1, 1000), fr(1000000, 1), fr(9, 10), fr(1, 1),
		} {
			checkClosest(t, all, l, bigOf(target))
			checkExact(t, all, l, bigOf(target))
		}
	}
}

func TestClosestRange(t *testing.T) {
	const m = api.MaxFrac
	one := api.Teeth{WheelLow: 1, WheelHigh: 1, PinionLow: 1, PinionHigh: 1, Stages: 1}
	for _, c := range []struct {
		target, off api.Frac
		e           api.Errno
	}{
		{fr(m, 1), fr(1-m, 1), api.OK},
		{fr(1, m), fr(m-1, m), api.OK},
		{fr(m-1, m), fr(1, m), api.OK},
		{fr(m, m-1), fr(-1, m-1), api.OK},
		{fr(1, 1), fr(0, 1), api.OK},
	} {
		x, off, e := gear.Closest(c.target, one)
		if !sameTrain(x, api.Train{Wheels: []int{1}, Pinions: []int{1}}) || off != c.off || e != c.e {
			t.Errorf("Closest(%v) = %v, %v, %d", c.target, x, off, e)
		}
	}
	two := api.Teeth{WheelLow: 3, WheelHigh: 3, PinionLow: 2, PinionHigh: 2, Stages: 1}
	for _, target := range []api.Frac{fr(m, 1), fr(m-1, 1), fr(1, m-1), fr(1, m), fr(m-1, m)} {
		want, wantE := fracOf(new(big.Rat).Sub(big.NewRat(3, 2), bigOf(target)))
		x, off, e := gear.Closest(target, two)
		if isZero(x) != (wantE != api.OK) || off != want || e != wantE {
			t.Errorf("Closest(%v) = %v, %v, %d, not %v, %d", target, x, off, e, want, wantE)
		}
	}
	if x, off, e := gear.Closest(fr(m, 1), two); !isZero(x) || off != (api.Frac{}) || e != api.ErrRange {
		t.Errorf("Closest(MaxFrac) = %v, %v, %d", x, off, e)
	}
}

// TestBetter: of two trains the better one, by each of the rules in turn, although the other one is better by the rules that come after it.
func TestBetter(t *testing.T) {
	five := api.Teeth{WheelLow: 1, WheelHigh: 64, PinionLow: 5, PinionHigh: 5, Stages: 2}
	seven := api.Teeth{WheelLow: 7, WheelHigh: 7, PinionLow: 1, PinionHigh: 12, Stages: 3}
	sixty := api.Teeth{WheelLow: 60, WheelHigh: 80, PinionLow: 6, PinionHigh: 10, Stages: 2}
	for _, c := range []struct {
		rule        string
		target      api.Frac
		l           api.Teeth
		best, other api.Train
	}{
		{"fewer wheels", fr(51, 5), five, api.Train{Wheels: []int{51}, Pinions: []int{5}}, api.Train{Wheels: []int{17, 15}, Pinions: []int{5, 5}}},
		{"sum", fr(40, 1), api.Teeth{WheelLow: 25, WheelHigh: 33, PinionLow: 2, PinionHigh: 8, Stages: 2}, api.Train{Wheels: []int{32, 25}, Pinions: []int{4, 5}}, api.Train{Wheels: []int{30, 28}, Pinions: []int{3, 7}}},
		{"sum", fr(448, 1), api.Teeth{WheelLow: 14, WheelHigh: 17, PinionLow: 1, PinionHigh: 7, Stages: 3}, api.Train{Wheels: []int{16, 16, 14}, Pinions: []int{2, 2, 2}}, api.Train{Wheels: []int{16, 14, 14}, Pinions: []int{1, 1, 7}}},
		{"wheels", fr(10, 1), api.Teeth{WheelLow: 25, WheelHigh: 34, PinionLow: 8, PinionHigh: 12, Stages: 2}, api.Train{Wheels: []int{30, 27}, Pinions: []int{9, 9}}, api.Train{Wheels: []int{32, 25}, Pinions: []int{8, 10}}},
		{"wheels of one product", fr(360, 343), api.Teeth{WheelLow: 5, WheelHigh: 10, PinionLow: 7, PinionHigh: 7, Stages: 3}, api.Train{Wheels: []int{9, 8, 5}, Pinions: []int{7, 7, 7}}, api.Train{Wheels: []int{10, 6, 6}, Pinions: []int{7, 7, 7}}},
		{"pinions", fr(343, 360), seven, api.Train{Wheels: []int{7, 7, 7}, Pinions: []int{5, 8, 9}}, api.Train{Wheels: []int{7, 7, 7}, Pinions: []int{6, 6, 10}}},
		// Halfway between the two.
		{"fewer wheels, above", fr(309, 50), five, api.Train{Wheels: []int{31}, Pinions: []int{5}}, api.Train{Wheels: []int{14, 11}, Pinions: []int{5, 5}}},
		{"fewer wheels, below", fr(311, 50), five, api.Train{Wheels: []int{31}, Pinions: []int{5}}, api.Train{Wheels: []int{13, 12}, Pinions: []int{5, 5}}},
		{"sum, below", fr(10363, 200), sixty, api.Train{Wheels: []int{74, 63}, Pinions: []int{9, 10}}, api.Train{Wheels: []int{73, 71}, Pinions: []int{10, 10}}},
		{"sum, above", fr(4159, 75), sixty, api.Train{Wheels: []int{78, 64}, Pinions: []int{9, 10}}, api.Train{Wheels: []int{77, 72}, Pinions: []int{10, 10}}},
		{"wheels, above", fr(3079, 54), sixty, api.Train{Wheels: []int{70, 66}, Pinions: []int{9, 9}}, api.Train{Wheels: []int{76, 60}, Pinions: []int{8, 10}}},
		{"wheels, below", fr(128849, 2160), sixty, api.Train{Wheels: []int{70, 69}, Pinions: []int{9, 9}}, api.Train{Wheels: []int{77, 62}, Pinions: []int{8, 10}}},
		{"pinions, above", fr(82663, 348480), seven, api.Train{Wheels: []int{7, 7, 7}, Pinions: []int{10, 12, 12}}, api.Train{Wheels: []int{7, 7, 7}, Pinions: []int{11, 11, 12}}},
		{"pinions, below", fr(68257, 79200), seven, api.Train{Wheels: []int{7, 7, 7}, Pinions: []int{5, 8, 10}}, api.Train{Wheels: []int{7, 7, 7}, Pinions: []int{6, 6, 11}}},
	} {
		// First that the case is one.
		off := new(big.Rat).Sub(ratioOf(c.best), bigOf(c.target))
		if distance(ratioOf(c.other), bigOf(c.target)).Cmp(distance(ratioOf(c.best), bigOf(c.target))) != 0 || !isBetter(c.best, c.other) {
			t.Errorf("%s: not a case", c.rule)
		}
		if ok, e := gear.Fits(c.other, c.l); !ok || e != api.OK {
			t.Errorf("%s: Fits(%v) = %v, %d", c.rule, c.other, ok, e)
		}
		want, _ := fracOf(off)
		if x, o, e := gear.Closest(c.target, c.l); !sameTrain(x, c.best) || o != want || e != api.OK {
			t.Errorf("%s: Closest(%v) = %v, %v, %d", c.rule, c.target, x, o, e)
		}
		exact, exactE := c.best, api.OK
		if off.Sign() != 0 {
			exact, exactE = api.Train{}, api.ErrNone
		}
		if x, e := gear.Exact(c.target, c.l); !sameTrain(x, exact) || e != exactE {
			t.Errorf("%s: Exact(%v) = %v, %d", c.rule, c.target, x, e)
		}
	}
}

// bestOfMost searches the trains of the greatest limits, in ints alone, for the nearest and best one. Its products are small enough for that.
func bestOfMost(target api.Frac, l api.Teeth) api.Train {
	var best api.Train
	bestOff, bestDen := math.MaxInt, 1
	for n := 1; n <= l.Stages; n++ {
		wheels, pinions := rows(l.WheelLow, l.WheelHigh, n), rows(l.PinionLow, l.PinionHigh, n)
		wheelProducts, pinionProducts := productsOf(wheels), productsOf(pinions)
		for i, w := range wheelProducts {
			for j, p := range pinionProducts {
				off := w*target.Den - target.Num*p
				off = max(off, -off)
				if best.Wheels != nil && off*bestDen > bestOff*p {
					continue
				}
				down := slices.Clone(wheels[i])
				slices.Reverse(down)
				t := api.Train{Wheels: down, Pinions: pinions[j]}
				if best.Wheels == nil || off*bestDen < bestOff*p || isBetter(t, best) {
					best, bestOff, bestDen = t, off, p
				}
			}
		}
	}
	return best
}

func productsOf(rows [][]int) []int {
	var all []int
	for _, row := range rows {
		n := 1
		for _, teeth := range row {
			n *= teeth
		}
		all = append(all, n)
	}
	return all
}

// TestSearchMost is G4 and G5 for the greatest searches.
func TestSearchMost(t *testing.T) {
	for _, c := range []struct {
		target api.Frac
		l      api.Teeth
	}{
		{fr(720, 1), api.Teeth{WheelLow: 60, WheelHigh: 123, PinionLow: 6, PinionHigh: 17, Stages: 3}},
		{fr(355, 113), api.Teeth{WheelLow: 1, WheelHigh: 64, PinionLow: 6, PinionHigh: 17, Stages: 3}},
		{fr(2952, 2995), api.Teeth{WheelLow: 137, WheelHigh: 200, PinionLow: 189, PinionHigh: 200, Stages: 3}},
		{fr(29531, 1000), api.Teeth{WheelLow: 20, WheelHigh: 83, PinionLow: 7, PinionHigh: 18, Stages: 3}},
	} {
		best := bestOfMost(c.target, c.l)
		off, _ := fracOf(new(big.Rat).Sub(ratioOf(best), bigOf(c.target)))
		if x, o, e := gear.Closest(c.target, c.l); !sameTrain(x, best) || o != off || e != api.OK {
			t.Errorf("Closest(%v, %v) = %v, %v, %d, not %v", c.target, c.l, x, o, e, best)
		}
		wantE := api.OK
		if off.Num != 0 {
			best, wantE = api.Train{}, api.ErrNone
		}
		if x, e := gear.Exact(c.target, c.l); !sameTrain(x, best) || e != wantE {
			t.Errorf("Exact(%v, %v) = %v, %d, not %v", c.target, c.l, x, e, best)
		}
	}
}

// TestMemory: arguments do not change, and results share no memory (R5).
func TestMemory(t *testing.T) {
	l := api.Teeth{WheelLow: 60, WheelHigh: 80, PinionLow: 6, PinionHigh: 10, Stages: 2}
	given := api.Train{Wheels: []int{60, 80}, Pinions: []int{10, 6}}
	gear.Ratio(given)
	gear.Fits(given, l)
	if !sameTrain(given, api.Train{Wheels: []int{60, 80}, Pinions: []int{10, 6}}) {
		t.Errorf("the argument is now %v", given)
	}
	want := api.Train{Wheels: []int{60, 60}, Pinions: []int{6, 10}}
	search := []func() api.Train{
		func() api.Train { x, _ := gear.Exact(fr(60, 1), l); return x },
		func() api.Train { x, _, _ := gear.Closest(fr(60, 1), l); return x },
	}
	for _, f := range search {
		x, y := f(), f()
		whole := x.Wheels[:cap(x.Wheels)]
		for i := range whole {
			whole[i] = -1
		}
		if !slices.Equal(x.Pinions, want.Pinions) || !sameTrain(y, want) || !sameTrain(f(), want) {
			t.Errorf("%v and %v share memory", x, y)
		}
	}
}

func TestExamples(t *testing.T) {
	l := api.Teeth{WheelLow: 60, WheelHigh: 80, PinionLow: 6, PinionHigh: 10, Stages: 2}
	want := api.Train{Wheels: []int{60, 60}, Pinions: []int{6, 10}}
	if x, e := gear.Exact(fr(60, 1), l); !sameTrain(x, want) || e != api.OK {
		t.Errorf("Exact = %v, %d", x, e)
	}
	if x, off, e := gear.Closest(fr(60, 1), l); !sameTrain(x, want) || off != fr(0, 1) || e != api.OK {
		t.Errorf("Closest = %v, %v, %d", x, off, e)
	}
	if x, e := gear.Ratio(want); x != fr(60, 1) || e != api.OK {
		t.Errorf("Ratio = %v, %d", x, e)
	}
}
