package rate_test

import (
	"math/big"
	"math/rand"
	"slices"
	"testing"

	"tourbillon/api"
	"tourbillon/rate"
)

func TestLeastByHand(t *testing.T) {
	for _, c := range []struct {
		r         []api.Reading
		want      api.Line
		size      api.Frac
		witnesses []int
	}{
		{at(0, 0, 1, 1, 2, 0), lineOf(fr(0, 1), fr(1, 2)), fr(1, 2), []int{0, 1, 2}},
		{at(0, 0, 2, 3), lineOf(fr(3, 2), fr(0, 1)), fr(0, 1), nil},
		{at(0, 1, 2, 4, 6, 10), lineOf(fr(3, 2), fr(1, 1)), fr(0, 1), nil},
		{at(0, 0, 1, -1, 2, 0), lineOf(fr(0, 1), fr(-1, 2)), fr(1, 2), []int{0, 1, 2}},
		{at(0, 0, 1, 0, 2, 1), lineOf(fr(1, 2), fr(-1, 4)), fr(1, 4), []int{0, 1, 2}},
		{at(0, 0, 1, 0, 2, 1, 3, 1), lineOf(fr(1, 2), fr(-1, 4)), fr(1, 4), []int{0, 1, 2}}, // the errors alternate at all four
		{at(0, 0, 1, 1, 2, 0, 3, 1), lineOf(fr(0, 1), fr(1, 2)), fr(1, 2), []int{0, 1, 2}},
		{at(0, 1, 1, 1, 2, 0, 3, 0, 4, 1), lineOf(fr(0, 1), fr(1, 2)), fr(1, 2), []int{0, 2, 4}},
		{at(0, 0, 1, 1, 2, 1, 3, 0, 4, 0, 5, 1), lineOf(fr(0, 1), fr(1, 2)), fr(1, 2), []int{0, 1, 3}},
		{at(0, 5, 10, 0, 11, 9, 20, 5), lineOf(fr(4, 11), fr(15, 22)), fr(95, 22), []int{0, 1, 2}},
		{at(-m, -m, 0, m, m, -m), lineOf(fr(0, 1), fr(0, 1)), fr(m, 1), []int{0, 1, 2}},
		{at(-m, -m, m-1, -m, m, m), lineOf(fr(1, 1), fr(1-2*m, 2)), fr(2*m-1, 2), []int{0, 1, 2}},
		{steps(api.MaxReadings, m-63, 1, func(time int) int { return time % 2 }), lineOf(fr(0, 1), fr(1, 2)), fr(1, 2), []int{0, 1, 2}},
		{steps(api.MaxReadings, 0, 1, func(time int) int { return 7 * time }), lineOf(fr(7, 1), fr(0, 1)), fr(0, 1), nil},
	} {
		l, x, e := rate.Least(c.r)
		if l != c.want || x != c.size || e != api.OK {
			t.Errorf("Least(%v) = %v, %v, %d, not %v, %v", c.r, l, x, e, c.want, c.size)
		}
		if w, e := rate.Witnesses(c.r); !slices.Equal(w, c.witnesses) || e != api.OK {
			t.Errorf("Witnesses(%v) = %v, %d, not %v", c.r, w, e, c.witnesses)
		}
	}
}

// TestR3 compares Least's error with that of the worst three readings, and its line's Worst with it.
func TestR3(t *testing.T) {
	r := rand.New(rand.NewSource(34))
	for _, x := range samples() {
		l, size, e := rate.Least(x)
		want, _ := fracsOf(leastError(x))
		if size != want[0] || e != api.OK {
			t.Fatalf("Least(%v) = %v, %v, %d, not %v", x, l, size, e, want[0])
		}
		if worst, e := rate.Worst(x, l); worst != size || e != api.OK {
			t.Fatalf("Least(%v) = %v, %v: Worst is %v, %d", x, l, size, worst, e)
		}
		for range 20 {
			other := bigLine{
				new(big.Rat).Add(bigOf(l.Slope), big.NewRat(int64(r.Intn(9)-4), int64(1+r.Intn(99)))),
				new(big.Rat).Add(bigOf(l.Shift), big.NewRat(int64(r.Intn(9)-4), int64(1+r.Intn(99)))),
			}
			line, e := other.frac()
			if worst := other.worst(x); e == api.OK && line != l && worst.Cmp(bigOf(size)) <= 0 {
				t.Fatalf("Least(%v) = %v, %v: %v has the error %v", x, l, size, other, worst)
			}
		}
	}
}

// witnessesOf returns the first three readings, of all in order, at which a line has errors of that size with signs that alternate.
func witnessesOf(r []api.Reading, l bigLine, size *big.Rat) []int {
	sign := make([]int, len(r))
	for k, x := range r {
		off := l.off(x)
		if new(big.Rat).Abs(off).Cmp(size) == 0 {
			sign[k] = off.Sign()
		}
	}
	for i := range r {
		for j := i + 1; j < len(r); j++ {
			for k := j + 1; k < len(r); k++ {
				if sign[i] != 0 && sign[j] == -sign[i] && sign[k] == sign[i] {
					return []int{i, j, k}
				}
			}
		}
	}
	return nil
}

// TestR4 compares Witnesses with a search through all triples: there are none if the error is 0, and only then.
func TestR4(t *testing.T) {
	none, some := 0, 0
	for _, x := range samples() {
		l, size, _ := rate.Least(x)
		want := witnessesOf(x, bigLineOf(l), bigOf(size))
		w, e := rate.Witnesses(x)
		if !slices.Equal(w, want) || e != api.OK {
			t.Fatalf("Witnesses(%v) = %v, %d, not %v", x, w, e, want)
		}
		if (len(w) == 0) != (size == fr(0, 1)) {
			t.Fatalf("Witnesses(%v) = %v for the error %v", x, w, size)
		}
		if len(w) == 0 {
			none++
			continue
		}
		some++
		// No line is better at three readings whose errors alternate: what they prove is the least error of them alone.
		if num, den := bent(x[w[0]], x[w[1]], x[w[2]]); big.NewRat(int64(num), int64(den)).Cmp(bigOf(size)) != 0 {
			t.Fatalf("Witnesses(%v) = %v: they prove %d/%d, not %v", x, w, num, den, size)
		}
	}
	if none == 0 || some == 0 {
		t.Errorf("%d samples without witnesses, %d with them", none, some)
	}
}

func TestHullByHand(t *testing.T) {
	for _, c := range []struct {
		r            []api.Reading
		below, above []int
	}{
		{at(0, 0, 1, 1, 2, 0), []int{0, 2}, []int{0, 1, 2}},
		{at(0, 0, 1, -1, 2, 0), []int{0, 1, 2}, []int{0, 2}},
		{at(0, 0, 2, 3), []int{0, 1}, []int{0, 1}},
		{at(0, 0, 1, 2, 2, 4, 3, 6), []int{0, 3}, []int{0, 3}},
		{at(0, 0, 1, 1, 2, 2, 3, 1, 4, 0), []int{0, 4}, []int{0, 2, 4}},
		{at(0, 4, 1, 2, 2, 0, 3, 0, 4, 0, 6, 1, 8, 2), []int{0, 2, 4, 6}, []int{0, 6}},
		{at(0, 0, 1, 5, 2, 4, 3, 6, 4, 0), []int{0, 4}, []int{0, 1, 3, 4}},
		{at(-m, -m, -m+1, m, m-1, -m, m, m), []int{0, 2, 3}, []int{0, 1, 3}},
		{at(-m, m, -m+1, m, m-1, -m, m, -m), []int{0, 2, 3}, []int{0, 1, 3}},
		{steps(api.MaxReadings, 0, 1, zero), []int{0, 63}, []int{0, 63}},
	} {
		below, above, e := rate.Hull(c.r)
		if !slices.Equal(below, c.below) || !slices.Equal(above, c.above) || e != api.OK {
			t.Errorf("Hull(%v) = %v, %v, %d, not %v, %v", c.r, below, above, e, c.below, c.above)
		}
	}
}

// TestHull compares corners with the readings that are below, or above, the lines through all pairs around them.
func TestHull(t *testing.T) {
	for _, r := range samples() {
		var below, above []int
		for k, x := range r {
			low, high := true, true
			for _, before := range r[:k] {
				for _, after := range r[k+1:] {
					off := (x.Offset-before.Offset)*(after.Time-before.Time) - (after.Offset-before.Offset)*(x.Time-before.Time)
					low = low && off < 0
					high = high && off > 0
				}
			}
			if low {
				below = append(below, k)
			}
			if high {
				above = append(above, k)
			}
		}
		b, a, e := rate.Hull(r)
		if !slices.Equal(b, below) || !slices.Equal(a, above) || e != api.OK {
			t.Fatalf("Hull(%v) = %v, %v, %d, not %v, %v", r, b, a, e, below, above)
		}
	}
}

// TestArguments checks that no function changes the readings, and that results share no memory and depend on nothing but them.
func TestArguments(t *testing.T) {
	for _, r := range samples()[:90] {
		before := slices.Clone(r)
		spare := append(slices.Clone(r), at(9, 9, 9, 9)...)[:len(r)] // its capacity is another one
		most := fr(1, 2)
		rate.Slope(r, 0, 1)
		rate.Squares(r)
		rate.Median(r)
		rate.Least(r)
		rate.Worst(r, lineOf(fr(1, 3), fr(-5, 7)))
		rate.Longest(r, most)
		w, _ := rate.Witnesses(r)
		p, _ := rate.Pieces(r, most)
		below, above, _ := rate.Hull(r)
		if !slices.Equal(r, before) {
			t.Fatalf("%v became %v", before, r)
		}
		lists := [][]int{w, p, below, above}
		copies := [][]int{slices.Clone(w), slices.Clone(p), slices.Clone(below), slices.Clone(above)}
		for k, list := range lists {
			for i := range list {
				list[i] = -7
			}
			_ = append(list, -8)
			for n := k + 1; n < len(lists); n++ {
				if !slices.Equal(lists[n], copies[n]) {
					t.Fatalf("results of %v share memory", r)
				}
			}
		}
		w, _ = rate.Witnesses(spare)
		p, _ = rate.Pieces(spare, most)
		below, above, _ = rate.Hull(spare)
		for k, list := range [][]int{w, p, below, above} {
			if !slices.Equal(list, copies[k]) {
				t.Fatalf("%v: a second call returned %v, not %v", r, list, copies[k])
			}
		}
		if !slices.Equal(spare[:cap(spare)][len(spare):len(spare)+2], at(9, 9, 9, 9)) {
			t.Fatalf("the memory behind %v changed", spare)
		}
	}
}
