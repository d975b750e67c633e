package fit_test

import (
	"math"
	"math/rand"
	"slices"
	"testing"

	"tourbillon/api"
	"tourbillon/fit"
)

func TestPairByHand(t *testing.T) {
	for _, c := range []struct {
		pieces
		want   []int
		paired int
	}{
		{pieces{[]int{10, 10, 11}, []int{12, 13}, span(1, 2)}, []int{0, -1, 1}, 2},
		{pieces{nil, nil, span(0, 0)}, nil, 0},
		{pieces{nil, []int{1, 2}, span(0, 9)}, nil, 0},
		{pieces{[]int{1, 2}, nil, span(0, 9)}, []int{-1, -1}, 0},
		{pieces{[]int{5}, []int{5}, span(0, 0)}, []int{0}, 1},
		{pieces{[]int{5}, []int{5}, span(1, 1)}, []int{-1}, 0},
		{pieces{[]int{5}, []int{4}, span(-1, -1)}, []int{0}, 1},
		{pieces{[]int{5}, []int{6}, span(-1, -1)}, []int{-1}, 0},
		{pieces{[]int{1, 1, 1}, []int{1, 1, 1}, span(0, 0)}, []int{0, 1, 2}, 3},
		{pieces{[]int{1, 1, 1}, []int{1, 1}, span(0, 0)}, []int{0, 1, -1}, 2},
		{pieces{[]int{1, 2}, []int{2, 1}, span(0, 1)}, []int{1, 0}, 2},          // shaft 0 may not take hole 0
		{pieces{[]int{1, 2}, []int{2, 1, 2}, span(0, 1)}, []int{0, 2}, 2},       // here it may
		{pieces{[]int{2, 1}, []int{2, 1}, span(0, 1)}, []int{0, 1}, 2},          // shaft 1 has hole 1 left
		{pieces{[]int{1, 2, 3}, []int{3, 2, 4}, span(0, 2)}, []int{0, 1, 2}, 3}, // shaft 2 is left the widest
		{pieces{[]int{3, 2, 1}, []int{3, 2, 1}, span(0, 0)}, []int{0, 1, 2}, 3},
		{pieces{[]int{1, 2, 3}, []int{3, 2, 1}, span(0, 0)}, []int{2, 1, 0}, 3},
		{pieces{[]int{9, 1, 9, 1}, []int{1, 9}, span(0, 0)}, []int{1, 0, -1, -1}, 2},
		{pieces{[]int{3, 3, 2}, []int{4, 4, 3}, span(1, 1)}, []int{0, 1, 2}, 3},
		{pieces{[]int{m, -m}, []int{m, -m}, span(0, 0)}, []int{0, 1}, 2},
		{pieces{[]int{m, -m}, []int{-m, m}, span(-m, m)}, []int{1, 0}, 2},
		{pieces{[]int{m, -m}, []int{0, 0}, span(-m, -m)}, []int{0, -1}, 1},
		{pieces{[]int{m, -m}, []int{0, 0}, span(m, m)}, []int{-1, 0}, 1},
		{pieces{[]int{m, -m}, []int{0}, span(-m, m)}, []int{0, -1}, 1},
		{pieces{[]int{-m, m}, []int{m, -m}, span(m, m)}, []int{-1, -1}, 0},
	} {
		x, n, e := fit.Pair(c.shafts, c.holes, c.clearance)
		if !slices.Equal(x, c.want) || n != c.paired || e != api.OK {
			t.Errorf("Pair(%v) = %v, %d, %d, not %v, %d", c.pieces, x, n, e, c.want, c.paired)
		}
	}
}

// smallPieces returns pieces that are few enough for a search through all pairings.
func smallPieces(r *rand.Rand) pieces {
	high := 1 + r.Intn(8)
	return pieces{randomSizes(r, 5, 0, high), randomSizes(r, 5, 0, high+2), randomSpan(r, -2, 4)}
}

// manyPieces returns up to MaxPieces pieces.
func manyPieces(r *rand.Rand) pieces {
	high := 1 + r.Intn(120)
	low := r.Intn(9) - 4
	return pieces{randomSizes(r, api.MaxPieces, 0, high), randomSizes(r, api.MaxPieces, 0, high+5), span(low, low+r.Intn(12))}
}

// fullPieces returns MaxPieces shafts and holes.
func fullPieces(r *rand.Rand, high int) pieces {
	return pieces{manySizes(r, api.MaxPieces, 0, high), manySizes(r, api.MaxPieces, 0, high), span(-2, 4)}
}

// TestPairAll compares Pair with a search through all pairings.
func TestPairAll(t *testing.T) {
	r := rand.New(rand.NewSource(11))
	for range 4000 {
		p := smallPieces(r)
		want, most := p.bestPairing()
		x, n, e := fit.Pair(p.shafts, p.holes, p.clearance)
		if !slices.Equal(x, want) || n != most || e != api.OK {
			t.Errorf("Pair(%v) = %v, %d, %d, not %v, %d", p, x, n, e, want, most)
		}
	}
}

// TestMost is F3: no pairing has more shafts than Pair's.
func TestMost(t *testing.T) {
	r := rand.New(rand.NewSource(12))
	for i := range 600 {
		p := manyPieces(r)
		if i < 20 {
			p = fullPieces(r, 10*i)
		}
		x, n, e := fit.Pair(p.shafts, p.holes, p.clearance)
		if !p.isPairing(x) || paired(x) != n || n != p.most() || e != api.OK {
			t.Errorf("Pair(%v) = %v, %d, %d, and %d can be paired", p, x, n, e, p.most())
		}
	}
}

// TestLeast is F5: no pairing of as many shafts gives one of them a lesser hole and the ones before it the same.
func TestLeast(t *testing.T) {
	r := rand.New(rand.NewSource(13))
	for i := range 60 {
		p := manyPieces(r)
		if i < 6 {
			p = fullPieces(r, 20*i)
		}
		x, n, _ := fit.Pair(p.shafts, p.holes, p.clearance)
		for shaft, hole := range x {
			for other := range p.holes {
				if compareHoles(other, hole) >= 0 || !p.fits(shaft, other) || slices.Contains(x[:shaft], other) {
					continue
				}
				beginning := append(slices.Clone(x[:shaft]), other)
				if paired(beginning)+p.without(beginning).most() == n {
					t.Fatalf("Pair(%v) = %v, but it could begin with %v", p, x, beginning)
				}
			}
		}
	}
}

func TestGreatestPairs(t *testing.T) {
	const k = api.MaxPieces
	var up, down, back []int
	for i := range k {
		up = append(up, i)
		down = append(down, k-1-i)
		back = append(back, k-1-i)
	}
	for _, c := range []struct {
		pieces
		want   []int
		paired int
	}{
		{pieces{same(k, 0), same(k, 0), span(0, 0)}, up, k},
		{pieces{same(k, 0), same(k, 0), span(1, 1)}, same(k, -1), 0},
		{pieces{up, up, span(0, 0)}, up, k},
		{pieces{up, down, span(0, 0)}, back, k},
		{pieces{up, up, span(-m, m)}, up, k},
		{pieces{same(k, m), same(k, -m), span(-m, m)}, same(k, -1), 0},
		{pieces{same(k, m), same(k, 0), span(-m, -m)}, up, k},
		{pieces{up, same(k, 0), span(-3, 0)}, append([]int{0, 1, 2, 3}, same(k-4, -1)...), 4},
		{pieces{up, up, span(1, 1)}, append(slices.Clone(up[1:]), -1), k - 1},
	} {
		x, n, e := fit.Pair(c.shafts, c.holes, c.clearance)
		if !slices.Equal(x, c.want) || n != c.paired || e != api.OK {
			t.Errorf("Pair(%v) = %v, %d, %d", c.pieces, x, n, e)
		}
	}
}

// checkLacks is the first half of F4: the spans are as Lacks has them, and show what Pair leaves over.
func checkLacks(t *testing.T, p pieces) {
	t.Helper()
	_, n, _ := fit.Pair(p.shafts, p.holes, p.clearance)
	over := len(p.shafts) - n
	spans, lacking, e := fit.Lacks(p.shafts, p.holes, p.clearance)
	if !isLacks(spans) || lacking != over || p.shown(spans) != over || e != api.OK {
		t.Errorf("Lacks(%v) = %v, %d, %d; %d are left over", p, spans, lacking, e, over)
	}
	if over == 0 && len(spans) > 0 {
		t.Errorf("Lacks(%v) = %v, but all are paired", p, spans)
	}
	if shown, e := fit.Shows(p.shafts, p.holes, p.clearance, spans); shown != over || e != api.OK {
		t.Errorf("Shows(%v, %v) = %d, %d, not %d", p, spans, shown, e, over)
	}
}

func TestLacks(t *testing.T) {
	const k = api.MaxPieces
	var far []int
	for i := range k {
		far = append(far, 1000*i)
	}
	for _, p := range []pieces{
		{[]int{10, 10, 11}, []int{12, 13}, span(1, 2)},
		{nil, nil, span(0, 0)}, {nil, []int{1}, span(0, 0)}, {[]int{1}, nil, span(0, 0)}, {[]int{1, 5, 9}, nil, span(0, 2)}, {[]int{1, 2, 3}, nil, span(0, 0)}, {[]int{1, 3, 5}, nil, span(0, 2)},
		{same(k, m), nil, span(m, m)}, {same(k, -m), nil, span(-m, -m)}, {same(k, m), same(k, m), span(-m, m)}, {same(k, m), same(k-1, m), span(-m, m)}, {[]int{-m, m}, nil, span(-m, m)},
		{far, nil, span(0, 0)}, {far, nil, span(-999, 0)}, {far, nil, span(-1000, 0)}, {far, same(k, 1), span(0, 0)}, {far, same(k, 1), span(0, 1)}, {same(k, 0), same(k, 0), span(0, 0)},
		{same(k, 0), []int{-1, 1}, span(-1, 1)}, {[]int{m, m, 0}, []int{m, 0}, span(0, 0)},
	} {
		checkLacks(t, p)
	}
	r := rand.New(rand.NewSource(14))
	for i := range 1500 {
		checkLacks(t, manyPieces(r))
		checkLacks(t, smallPieces(r))
		if i < 30 {
			checkLacks(t, fullPieces(r, 10*i))
		}
	}
}

// spanSets gives out all disjoint and rising spans from low to high.
func spanSets(low, high int, yield func([]api.Span)) {
	var extend func(from int, before []api.Span)
	extend = func(from int, before []api.Span) {
		yield(before)
		for a := from; a <= high; a++ {
			for b := a; b <= high; b++ {
				extend(b+1, append(slices.Clone(before), span(a, b)))
			}
		}
	}
	extend(low, nil)
}

// TestDuality is the other half of F4: no spans show more than what Pair leaves over, and so none more than those of Lacks.
func TestDuality(t *testing.T) {
	r := rand.New(rand.NewSource(15))
	for range 60 {
		p := pieces{randomSizes(r, 6, 0, 5), randomSizes(r, 6, 0, 6), randomSpan(r, 0, 2)}
		_, n, _ := fit.Pair(p.shafts, p.holes, p.clearance)
		over, most := len(p.shafts)-n, math.MinInt
		spanSets(0, 7, func(spans []api.Span) {
			shown, e := fit.Shows(p.shafts, p.holes, p.clearance, spans)
			if shown != p.shown(spans) || e != api.OK {
				t.Errorf("Shows(%v, %v) = %d, %d", p, spans, shown, e)
			}
			most = max(most, shown)
		})
		if most != over {
			t.Errorf("%v: %d are left over, and spans show %d", p, over, most)
		}
	}
	for range 2000 {
		p := manyPieces(r)
		var spans []api.Span
		for low := r.Intn(20) - 10; low < 130; low += 1 + r.Intn(10) {
			s := span(low, low+r.Intn(40))
			spans, low = append(spans, s), s.High
		}
		_, n, _ := fit.Pair(p.shafts, p.holes, p.clearance)
		shown, e := fit.Shows(p.shafts, p.holes, p.clearance, spans)
		if shown != p.shown(spans) || shown > len(p.shafts)-n || e != api.OK {
			t.Errorf("Shows(%v, %v) = %d, %d; %d are left over", p, spans, shown, e, len(p.shafts)-n)
		}
	}
}

func TestShowsByHand(t *testing.T) {
	p := pieces{[]int{10, 10, 11}, []int{12, 13}, span(1, 2)}
	var singles []api.Span
	for i := range api.MaxPieces {
		singles = append(singles, span(i, i))
	}
	for _, c := range []struct {
		pieces
		spans []api.Span
		want  int
	}{
		{p, nil, 0},
		{p, []api.Span{span(11, 12)}, 1},
		{p, []api.Span{span(11, 13)}, 1},
		{p, []api.Span{span(12, 13)}, -1},
		{p, []api.Span{span(11, 11), span(12, 12)}, -1}, // no range lies in one of the two
		{p, []api.Span{span(11, 12), span(13, 13)}, 0},
		{p, []api.Span{span(12, 12), span(13, 13)}, -2},
		{p, []api.Span{span(-2*m, 2*m)}, 1},
		{p, []api.Span{span(-2*m, 10), span(14, 2*m)}, 0},
		{p, []api.Span{span(-2*m, -2*m), span(2*m, 2*m)}, 0},
		{p, singles, -2},
		{pieces{nil, nil, span(0, 0)}, []api.Span{span(0, 0)}, 0},
		{pieces{same(64, m), nil, span(m, m)}, []api.Span{span(2*m, 2*m)}, 64},
		{pieces{same(64, m), nil, span(m-1, m)}, []api.Span{span(2*m, 2*m)}, 0},
		{pieces{same(64, -m), nil, span(-m, -m)}, []api.Span{span(-2*m, -2*m)}, 64},
		{pieces{nil, same(64, m), span(0, 0)}, []api.Span{span(m, m)}, -64},
		{pieces{nil, same(64, -m), span(0, 0)}, []api.Span{span(-m, m)}, -64},
	} {
		if n, e := fit.Shows(c.shafts, c.holes, c.clearance, c.spans); n != c.want || e != api.OK {
			t.Errorf("Shows(%v, %v) = %d, %d, not %d", c.pieces, c.spans, n, e, c.want)
		}
	}
}

func TestShowsForm(t *testing.T) {
	bad := [][]api.Span{
		slices.Repeat([]api.Span{span(0, 0)}, 2),
		{span(0, 2), span(2, 3)}, {span(0, 5), span(1, 2)}, {span(5, 6), span(0, 1)}, {span(0, 1), span(5, 6), span(6, 7)}, {span(0, 1), span(3, 2)}, {span(1, 0)}, {span(2*m, -2*m)},
		{span(-2*m-1, 0)}, {span(0, 2*m+1)}, {span(2*m+1, 2*m+1)}, {span(-2*m-1, -2*m-1)}, {span(0, 1), span(2, 2*m+1)}, {span(-2*m-1, 0), span(1, 2)},
		{span(math.MinInt, math.MaxInt)}, {span(math.MaxInt, math.MinInt)}, {span(math.MinInt, math.MinInt)}, {span(math.MaxInt, math.MaxInt)}, {span(0, math.MaxInt)}, {span(math.MinInt, 0)},
		{span(0, 1), span(math.MinInt, 5)}, {span(0, 1), span(5, math.MaxInt)},
	}
	var tooMany []api.Span
	for i := range api.MaxPieces + 1 {
		tooMany = append(tooMany, span(2*i, 2*i))
	}
	bad = append(bad, tooMany)
	for _, spans := range bad {
		for _, p := range []pieces{{[]int{10, 10, 11}, []int{12, 13}, span(1, 2)}, {nil, nil, span(0, 0)}, {same(64, 1), same(64, 1), span(0, 0)}} {
			if n, e := fit.Shows(p.shafts, p.holes, p.clearance, spans); n != 0 || e != api.ErrForm {
				t.Errorf("Shows(%v, %v) = %d, %d", p, spans, n, e)
			}
		}
		if n, e := fit.Shows([]int{m + 1}, nil, span(0, 0), spans); n != 0 || e != api.ErrArg {
			t.Errorf("Shows of a shaft that is not valid and of %v = %d, %d", spans, n, e)
		}
	}
	if n, e := fit.Shows([]int{1}, nil, span(0, 0), tooMany[:api.MaxPieces]); n != 0 || e != api.OK {
		t.Errorf("Shows of the greatest number of spans = %d, %d", n, e)
	}
}

// TestInvalidPieces: every function says ErrArg of pieces that are not valid, and nothing else.
func TestInvalidPieces(t *testing.T) {
	var bad []pieces
	for _, sizes := range badSizes() {
		bad = append(bad, pieces{sizes, nil, span(0, 0)}, pieces{nil, sizes, span(0, 0)}, pieces{sizes, sizes, span(-m, m)}, pieces{[]int{1}, sizes, span(0, 1)}, pieces{sizes, []int{1, 2}, span(0, 1)})
	}
	for _, s := range badSpans() {
		bad = append(bad, pieces{nil, nil, s}, pieces{[]int{1, 2}, []int{3}, s}, pieces{[]int{1}, []int{3, 2}, s}, pieces{same(65, 0), nil, s})
	}
	for _, p := range bad {
		if x, n, e := fit.Pair(p.shafts, p.holes, p.clearance); len(x) > 0 || n != 0 || e != api.ErrArg {
			t.Errorf("Pair(%v) = %v, %d, %d", p, x, n, e)
		}
		if x, n, e := fit.Lacks(p.shafts, p.holes, p.clearance); len(x) > 0 || n != 0 || e != api.ErrArg {
			t.Errorf("Lacks(%v) = %v, %d, %d", p, x, n, e)
		}
		for _, spans := range [][]api.Span{nil, {span(0, 1)}, {span(1, 0)}} {
			if n, e := fit.Shows(p.shafts, p.holes, p.clearance, spans); n != 0 || e != api.ErrArg {
				t.Errorf("Shows(%v, %v) = %d, %d", p, spans, n, e)
			}
		}
		if x, n, e := fit.Grind(p.shafts, p.holes, p.clearance); len(x) > 0 || n != 0 || e != api.ErrArg {
			t.Errorf("Grind(%v) = %v, %d, %d", p, x, n, e)
		}
	}
}

// TestPiecesKept: no function changes or keeps its arguments, results share no memory, and nil and empty slices are the same.
func TestPiecesKept(t *testing.T) {
	shafts, holes, spans := []int{3, 1, 2, 2}, []int{2, 4, 3, 3, 9}, []api.Span{span(1, 2), span(3, 5)}
	p := pieces{slices.Clone(shafts), slices.Clone(holes), span(0, 2)}
	first, _, _ := fit.Pair(shafts, holes, p.clearance)
	second, _, _ := fit.Pair(shafts, holes, p.clearance)
	kept := slices.Clone(second)
	clear(first)
	if third, _, _ := fit.Pair(shafts, holes, p.clearance); !slices.Equal(second, kept) || !slices.Equal(third, kept) {
		t.Errorf("Pair: %v, %v, %v", second, third, kept)
	}
	ground, _, _ := fit.Grind(shafts, holes, p.clearance)
	other, _, _ := fit.Grind(shafts, holes, p.clearance)
	kept = slices.Clone(other)
	clear(ground)
	if third, _, _ := fit.Grind(shafts, holes, p.clearance); !slices.Equal(other, kept) || !slices.Equal(third, kept) {
		t.Errorf("Grind: %v, %v, %v", other, third, kept)
	}
	fit.Lacks(shafts, holes, p.clearance)
	fit.Shows(shafts, holes, p.clearance, spans)
	if !slices.Equal(shafts, p.shafts) || !slices.Equal(holes, p.holes) || !slices.Equal(spans, []api.Span{span(1, 2), span(3, 5)}) {
		t.Errorf("arguments have changed: %v, %v, %v", shafts, holes, spans)
	}
	for _, none := range [][]int{nil, {}} {
		if x, n, e := fit.Pair(none, holes, p.clearance); len(x) > 0 || n != 0 || e != api.OK {
			t.Errorf("Pair of no shafts = %v, %d, %d", x, n, e)
		}
		if x, n, e := fit.Pair(shafts, none, p.clearance); !slices.Equal(x, same(4, -1)) || n != 0 || e != api.OK {
			t.Errorf("Pair of no holes = %v, %d, %d", x, n, e)
		}
		if x, n, e := fit.Grind(none, none, p.clearance); len(x) > 0 || n != 0 || e != api.OK {
			t.Errorf("Grind of nothing = %v, %d, %d", x, n, e)
		}
	}
}
