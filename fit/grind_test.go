package fit_test

import (
	"math/rand"
	"slices"
	"testing"

	"tourbillon/api"
	"tourbillon/fit"
)

func TestGrindByHand(t *testing.T) {
	const k = api.MaxPieces
	var up, wide []int
	for i := range k {
		up = append(up, i)
		wide = append(wide, i-m)
	}
	for _, c := range []struct {
		pieces
		want  []int
		total int
		e     api.Errno
	}{
		{pieces{[]int{10, 10}, []int{12, 10}, span(1, 3)}, []int{0, 1}, 1, api.OK},
		{pieces{nil, nil, span(0, 0)}, nil, 0, api.OK},
		{pieces{nil, []int{1, 2}, span(0, 0)}, nil, 0, api.OK},
		{pieces{[]int{1}, nil, span(0, 0)}, nil, 0, api.ErrNone},
		{pieces{[]int{1, 1}, []int{1}, span(0, 0)}, nil, 0, api.ErrNone},
		{pieces{[]int{1}, []int{2}, span(0, 0)}, nil, 0, api.ErrNone}, // too wide
		{pieces{[]int{1}, []int{1}, span(0, 0)}, []int{0}, 0, api.OK},
		{pieces{[]int{9}, []int{1}, span(0, 0)}, []int{0}, 8, api.OK},
		{pieces{[]int{9}, []int{1}, span(2, 3)}, []int{0}, 10, api.OK},
		{pieces{[]int{9}, []int{1}, span(-8, 3)}, []int{0}, 0, api.OK},
		{pieces{[]int{9}, []int{1}, span(-9, -8)}, []int{0}, 0, api.OK},
		{pieces{[]int{9}, []int{1}, span(-10, -9)}, nil, 0, api.ErrNone},
		{pieces{[]int{9}, []int{1}, span(-7, -7)}, []int{0}, 1, api.OK},
		{pieces{[]int{5}, []int{1, 4, 5, 6}, span(0, 0)}, []int{2}, 0, api.OK},
		{pieces{[]int{5}, []int{1, 4, 6, 4}, span(0, 0)}, []int{1}, 1, api.OK}, // the first of two
		{pieces{[]int{5, 9}, []int{9, 5}, span(0, 0)}, []int{1, 0}, 0, api.OK},
		{pieces{[]int{5, 9}, []int{5, 4}, span(0, 0)}, []int{0, 1}, 5, api.OK}, // [1 0] is of the same total
		{pieces{[]int{4, 9}, []int{5, 4}, span(0, 0)}, []int{1, 0}, 4, api.OK}, // 5 is too wide for 4
		{pieces{[]int{7, 7, 7}, []int{3, 2, 1}, span(0, 9)}, []int{0, 1, 2}, 15, api.OK},
		{pieces{[]int{7, 7}, []int{1, 2, 3}, span(0, 9)}, []int{1, 2}, 9, api.OK}, // the least hole is left over
		{pieces{[]int{1, 1, 2}, []int{2, 1, 3}, span(0, 1)}, []int{0, 1, 2}, 0, api.OK},
		{pieces{[]int{m}, []int{-m}, span(m, m)}, []int{0}, 3 * m, api.OK},
		{pieces{[]int{-m}, []int{m}, span(-m, m)}, nil, 0, api.ErrNone},
		{pieces{[]int{0}, []int{m}, span(-m, m)}, []int{0}, 0, api.OK},
		{pieces{[]int{m}, []int{-m}, span(-m, -m)}, []int{0}, m, api.OK},
		{pieces{same(k, m), same(k, -m), span(m, m)}, up, 3 * m * k, api.OK},
		{pieces{same(k, 0), same(k, 0), span(0, 0)}, up, 0, api.OK},
		{pieces{same(k, 0), append(same(k-1, 0), 1), span(0, 0)}, nil, 0, api.ErrNone},
		{pieces{same(k, m), append(same(k-1, -m), m), span(0, 0)}, up, 2 * m * (k - 1), api.OK},
		{pieces{up, wide, span(0, 0)}, up, k * m, api.OK},
		{pieces{same(k, 1), same(k-1, 1), span(0, 0)}, nil, 0, api.ErrNone},
		{pieces{same(2, 1), same(k, 1), span(0, 0)}, []int{0, 1}, 0, api.OK},
	} {
		x, n, e := fit.Grind(c.shafts, c.holes, c.clearance)
		if !slices.Equal(x, c.want) || n != c.total || e != c.e {
			t.Errorf("Grind(%v) = %v, %d, %d, not %v, %d, %d", c.pieces, x, n, e, c.want, c.total, c.e)
		}
	}
}

// TestGrindAll compares Grind with a search through all assignments.
func TestGrindAll(t *testing.T) {
	r := rand.New(rand.NewSource(21))
	seen := map[bool]int{}
	for range 5000 {
		high := 1 + r.Intn(9)
		p := pieces{randomSizes(r, 5, 0, high), randomSizes(r, 6, -2, high), randomSpan(r, -2, 4)}
		want, least, found := p.bestGrinding()
		wantE := api.OK
		if !found {
			wantE = api.ErrNone
		}
		x, n, e := fit.Grind(p.shafts, p.holes, p.clearance)
		if !slices.Equal(x, want) || n != least || e != wantE {
			t.Errorf("Grind(%v) = %v, %d, %d, not %v, %d, %d", p, x, n, e, want, least, wantE)
		}
		seen[found]++
	}
	if seen[true] < 500 || seen[false] < 500 {
		t.Errorf("too few of a kind: %v", seen)
	}
}

// groundPieces returns pieces of which most can be ground: few holes are too wide.
func groundPieces(r *rand.Rand) pieces {
	high := 1 + r.Intn(200)
	n := r.Intn(api.MaxPieces + 1)
	low := r.Intn(9) - 4
	return pieces{manySizes(r, n, 0, high), manySizes(r, n+r.Intn(api.MaxPieces-n+1), -high/2, high/2), span(low, low+r.Intn(high))}
}

// totalOf returns the total of grinding of an assignment, and whether it is one.
func (p pieces) totalOf(x []int) (int, bool) {
	used, total := map[int]bool{}, 0
	for shaft, hole := range x {
		if hole < 0 || hole >= len(p.holes) || used[hole] {
			return 0, false
		}
		used[hole] = true
		by, possible := p.grinding(p.shafts[shaft], p.holes[hole])
		if !possible {
			return 0, false
		}
		total += by
	}
	return total, len(x) == len(p.shafts)
}

// TestLeastGrinding is F6: no assignment grinds less than Grind's.
func TestLeastGrinding(t *testing.T) {
	r := rand.New(rand.NewSource(22))
	ground := 0
	for range 800 {
		p := groundPieces(r)
		least, found := p.leastGrinding()
		x, n, e := fit.Grind(p.shafts, p.holes, p.clearance)
		if !found {
			if len(x) > 0 || n != 0 || e != api.ErrNone {
				t.Errorf("Grind(%v) = %v, %d, %d", p, x, n, e)
			}
			continue
		}
		total, right := p.totalOf(x)
		if !right || total != n || n != least || e != api.OK {
			t.Errorf("Grind(%v) = %v, %d, %d; the least total is %d", p, x, n, e, least)
		}
		if n > 0 {
			ground++
		}
	}
	if ground < 200 {
		t.Errorf("only %d were ground", ground)
	}
}

// TestFirstGrinding: no assignment of the same total gives a shaft a lesser hole and the ones before it the same.
func TestFirstGrinding(t *testing.T) {
	r := rand.New(rand.NewSource(23))
	for i := range 60 {
		p := groundPieces(r)
		if i < 6 {
			p = pieces{manySizes(r, api.MaxPieces, 0, 3*i), manySizes(r, api.MaxPieces, -i, i), span(0, 4*i)}
		}
		x, n, e := fit.Grind(p.shafts, p.holes, p.clearance)
		if e != api.OK {
			continue
		}
		for shaft, hole := range x {
			for other := range hole {
				beginning := append(slices.Clone(x[:shaft]), other)
				total, right := pieces{p.shafts[:shaft+1], p.holes, p.clearance}.totalOf(beginning)
				if !right {
					continue
				}
				if rest, found := p.without(beginning).leastGrinding(); found && total+rest == n {
					t.Fatalf("Grind(%v) = %v, %d, but it could begin with %v", p, x, n, beginning)
				}
			}
		}
	}
}

// TestNothingToGrind is the other part of F6: where Pair pairs all shafts, Grind's total is 0, and as both are the least pairing, they are the same.
func TestNothingToGrind(t *testing.T) {
	r := rand.New(rand.NewSource(24))
	all := 0
	for range 3000 {
		p := smallPieces(r)
		if r.Intn(4) == 0 {
			p = groundPieces(r)
		}
		pairing, n, _ := fit.Pair(p.shafts, p.holes, p.clearance)
		x, total, e := fit.Grind(p.shafts, p.holes, p.clearance)
		if n < len(p.shafts) {
			if e == api.OK && total == 0 {
				t.Errorf("Grind(%v) = %v, %d, but Pair pairs %d", p, x, total, n)
			}
			continue
		}
		all++
		if total != 0 || !slices.Equal(x, pairing) || e != api.OK {
			t.Errorf("Grind(%v) = %v, %d, %d, and Pair is %v", p, x, total, e, pairing)
		}
	}
	if all < 300 {
		t.Errorf("only %d had all shafts paired", all)
	}
}
