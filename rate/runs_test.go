package rate_test

import (
	"math/big"
	"math/rand"
	"slices"
	"testing"

	"tourbillon/api"
	"tourbillon/rate"
)

func TestLongestByHand(t *testing.T) {
	line := steps(api.MaxReadings, -m, 1, func(time int) int { return time })
	for _, c := range []struct {
		r           []api.Reading
		most        api.Frac
		first, last int
	}{
		{at(0, 0, 1, 1, 2, 0, 3, 1), fr(1, 4), 0, 1},
		{at(0, 0, 1, 1, 2, 0, 3, 1), fr(1, 2), 0, 3},
		{at(0, 0, 1, 1, 2, 0, 3, 1), fr(0, 1), 0, 1},
		{at(0, 0, 1, 1, 2, 0, 3, 1), fr(1<<61-1, 1<<62), 0, 1}, // just below 1/2
		{at(0, 0, 2, 3), fr(0, 1), 0, 1},
		{at(0, 5, 1, 0, 2, 0, 3, 0, 4, 9, 5, 9, 6, 9), fr(0, 1), 1, 3},    // two runs of three
		{at(0, 5, 1, 0, 2, 0, 3, 9, 4, 10, 5, 11, 6, 12), fr(0, 1), 3, 6}, // a run of four after it
		{at(0, 0, 1, 1, 2, 2, 3, 0, 4, 0, 5, 0), fr(0, 1), 0, 2},
		{at(0, 0, 1, 7, 2, 0, 3, 1, 4, 2), fr(0, 1), 2, 4},
		{at(-m, -m, 0, m, m, -m), fr(m, 1), 0, 2},
		{at(-m, -m, 0, m, m, -m), fr(m-1, 1), 0, 1},
		{at(-m, -m, 0, m, m, -m), fr(api.MaxFrac, 1), 0, 2},
		{line, fr(0, 1), 0, 63},
		{line, fr(1, api.MaxFrac), 0, 63},
	} {
		if first, last, e := rate.Longest(c.r, c.most); first != c.first || last != c.last || e != api.OK {
			t.Errorf("Longest(%v, %v) = %d, %d, %d, not %d, %d", c.r, c.most, first, last, e, c.first, c.last)
		}
	}
}

func TestPiecesByHand(t *testing.T) {
	line := steps(api.MaxReadings, -m, 1, func(time int) int { return time })
	zigzag := steps(api.MaxReadings, 0, 1, func(time int) int { return time % 2 })
	var pairs []int
	for k := 0; k < api.MaxReadings; k += 2 {
		pairs = append(pairs, k)
	}
	for _, c := range []struct {
		r    []api.Reading
		most api.Frac
		want []int
	}{
		{at(0, 0, 1, 1, 2, 0, 3, 1), fr(1, 4), []int{0, 2}},
		{at(0, 0, 1, 1, 2, 0, 3, 1), fr(1, 2), []int{0}},
		{at(0, 0, 1, 1, 2, 0), fr(0, 1), []int{0, 2}}, // the last run has one reading
		{at(0, 0, 2, 3), fr(0, 1), []int{0}},
		{at(0, 0, 1, 0, 2, 0, 3, 1, 4, 2, 5, 3, 6, 9), fr(0, 1), []int{0, 3, 6}},
		{at(0, 0, 1, 5, 2, 0, 3, 0, 4, 0), fr(0, 1), []int{0, 2}},
		{at(-m, -m, 0, m, m, -m), fr(m, 1), []int{0}},
		{at(-m, -m, 0, m, m, -m), fr(m-1, 1), []int{0, 2}},
		{line, fr(0, 1), []int{0}},
		{zigzag, fr(0, 1), pairs},
		{zigzag, fr(1, 2), []int{0}},
		{zigzag, fr(1<<61-1, 1<<62), pairs},
	} {
		if p, e := rate.Pieces(c.r, c.most); !slices.Equal(p, c.want) || e != api.OK {
			t.Errorf("Pieces(%v, %v) = %v, %d, not %v", c.r, c.most, p, e, c.want)
		}
	}
}

// randomMost returns a greatest error that some runs of r have, or that is between those of runs.
func randomMost(r *rand.Rand, x []api.Reading) api.Frac {
	first := r.Intn(len(x))
	last := first + r.Intn(len(x)-first)
	most := leastError(x[first : last+1])
	switch r.Intn(5) {
	case 0:
		most.Quo(most, whole(2))
	case 1:
		most.Sub(most, big.NewRat(1, 1<<40))
	case 2:
		most = new(big.Rat)
	}
	if most.Sign() < 0 || !fits(most) {
		return fr(1, 3)
	}
	all, _ := fracsOf(most)
	return all[0]
}

// small returns for all first and last readings whether the run's least error is at most `most`.
func small(x []api.Reading, most api.Frac) [][]bool {
	table := make([][]bool, len(x))
	for first := range x {
		table[first] = make([]bool, len(x))
		for last := first; last < len(x); last++ {
			table[first][last] = leastError(x[first:last+1]).Cmp(bigOf(most)) <= 0
		}
	}
	return table
}

// longestOf returns the first of the longest small runs of at least two readings.
func longestOf(table [][]bool) (int, int) {
	first, last := 0, 0
	for i := range table {
		for j := i + 1; j < len(table); j++ {
			if table[i][j] && j-i > last-first {
				first, last = i, j
			}
		}
	}
	return first, last
}

// piecesOf returns the first readings of the fewest small runs: of all ways to part the readings the one whose runs are longest from the first one on.
func piecesOf(table [][]bool) []int {
	n := len(table)
	fewest := make([]int, n+1) // by the first reading that is left
	for i := n - 1; i >= 0; i-- {
		fewest[i] = n + 1
		for j := i; j < n; j++ {
			if table[i][j] {
				fewest[i] = min(fewest[i], 1+fewest[j+1])
			}
		}
	}
	var firsts []int
	for i := 0; i < n; {
		firsts = append(firsts, i)
		next := i + 1
		for j := i; j < n; j++ {
			if table[i][j] && fewest[j+1] == fewest[i]-1 {
				next = j + 1
			}
		}
		i = next
	}
	return firsts
}

// TestR6 compares Pieces, and Longest, with searches through all runs.
func TestR6(t *testing.T) {
	r := rand.New(rand.NewSource(36))
	for k, x := range samples() {
		if len(x) > 12 && k%4 > 0 {
			continue // the search takes its time
		}
		if len(x) > 40 {
			x = x[:40]
		}
		most := randomMost(r, x)
		table := small(x, most)
		firstWant, lastWant := longestOf(table)
		if first, last, e := rate.Longest(x, most); first != firstWant || last != lastWant || e != api.OK {
			t.Fatalf("Longest(%v, %v) = %d, %d, %d, not %d, %d", x, most, first, last, e, firstWant, lastWant)
		}
		want := piecesOf(table)
		if p, e := rate.Pieces(x, most); !slices.Equal(p, want) || e != api.OK {
			t.Fatalf("Pieces(%v, %v) = %v, %d, not %v", x, most, p, e, want)
		}
	}
}

func TestRunsInvalid(t *testing.T) {
	good := at(0, 0, 1, 1, 2, 0)
	check := func(x []api.Reading, most api.Frac) {
		t.Helper()
		if first, last, e := rate.Longest(x, most); first != 0 || last != 0 || e != api.ErrArg {
			t.Errorf("Longest(%v, %v) = %d, %d, %d", x, most, first, last, e)
		}
		if p, e := rate.Pieces(x, most); len(p) != 0 || e != api.ErrArg {
			t.Errorf("Pieces(%v, %v) = %v, %d", x, most, p, e)
		}
	}
	for _, most := range badMosts() {
		check(good, most)
	}
	for _, x := range badReadings() {
		check(x, fr(1, 1))
		check(x, fr(0, 1))
		check(x, fr(-1, 1))
		check(x, api.Frac{})
	}
}
