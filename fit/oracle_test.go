package fit_test

import (
	"math"
	"math/rand"
	"slices"

	"tourbillon/api"
)

// The tests compare the package with searches through everything there is, and with other ways of finding the same.

func span(low, high int) api.Span { return api.Span{Low: low, High: high} }

func part(low, high int) api.Part { return api.Part{Size: span(low, high)} }

func minus(low, high int) api.Part { return api.Part{Size: span(low, high), Minus: true} }

func times(n int, p api.Part) []api.Part { return slices.Repeat([]api.Part{p}, n) }

func same(n, size int) []int { return slices.Repeat([]int{size}, n) }

// badSpans returns spans that are not valid.
func badSpans() []api.Span {
	const m = api.MaxSize
	return []api.Span{
		span(1, 0), span(m, m-1), span(m, -m), span(-m-1, 0), span(-m-1, -m-1), span(0, m+1), span(m+1, m+1), span(-m-1, m+1), span(m, m+1), span(-m-1, -m),
		span(math.MinInt, 0), span(0, math.MinInt), span(math.MaxInt, 0), span(0, math.MaxInt), span(math.MinInt, math.MaxInt), span(math.MaxInt, math.MinInt),
		span(math.MinInt, math.MinInt), span(math.MaxInt, math.MaxInt), span(m, math.MaxInt), span(math.MinInt, -m), span(math.MaxInt-1, math.MaxInt),
	}
}

// badStacks returns stacks that are not valid.
func badStacks() [][]api.Part {
	const m = api.MaxSize
	stacks := [][]api.Part{
		nil, {}, times(api.MaxParts+1, part(0, 1)), times(1000, part(0, 0)),
		{part(0, api.MaxWidth+1)}, {minus(0, api.MaxWidth+1)}, {part(-m, m)}, {part(-1, api.MaxWidth)},
	}
	for _, s := range badSpans() {
		bad := api.Part{Size: s}
		stacks = append(stacks, []api.Part{bad}, []api.Part{{Size: s, Minus: true}}, []api.Part{part(0, 1), bad}, []api.Part{bad, part(0, 1)}, append(times(api.MaxParts-1, part(0, 1)), bad))
	}
	return stacks
}

// badSizes returns slices of pieces that are not valid.
func badSizes() [][]int {
	const m = api.MaxSize
	return [][]int{
		same(api.MaxPieces+1, 0), same(1000, 5), {m + 1}, {-m - 1}, {0, m + 1}, {-m - 1, 0}, {math.MinInt}, {math.MaxInt}, {1, 2, math.MinInt}, {math.MaxInt, 1},
		append(same(api.MaxPieces-1, 3), m+1),
	}
}

// gapsOf returns the gaps of all choices of a stack.
func gapsOf(parts []api.Part) []int {
	gaps := []int{0}
	for _, p := range parts {
		var longer []int
		for _, gap := range gaps {
			for size := p.Size.Low; size <= p.Size.High; size++ {
				if p.Minus {
					longer = append(longer, gap-size)
				} else {
					longer = append(longer, gap+size)
				}
			}
		}
		gaps = longer
	}
	return gaps
}

// counted returns how many of gaps are in need.
func counted(gaps []int, need api.Span) int {
	n := 0
	for _, gap := range gaps {
		if need.Low <= gap && gap <= need.High {
			n++
		}
	}
	return n
}

// randomStack returns a stack of up to so many parts of up to such a width.
func randomStack(r *rand.Rand, most, width int) []api.Part {
	var parts []api.Part
	for range 1 + r.Intn(most) {
		low := r.Intn(15) - 7
		parts = append(parts, api.Part{Size: span(low, low+r.Intn(width+1)), Minus: r.Intn(2) == 0})
	}
	return parts
}

// randomSpan returns a span from low to high, which may be a single number.
func randomSpan(r *rand.Rand, low, high int) api.Span {
	a, b := low+r.Intn(high-low+1), low+r.Intn(high-low+1)
	return span(min(a, b), max(a, b))
}

// randomSizes returns up to `most` sizes from low to high.
func randomSizes(r *rand.Rand, most, low, high int) []int {
	return manySizes(r, r.Intn(most+1), low, high)
}

// manySizes returns n sizes from low to high.
func manySizes(r *rand.Rand, n, low, high int) []int {
	var sizes []int
	for range n {
		sizes = append(sizes, low+r.Intn(high-low+1))
	}
	return sizes
}

// pieces is an argument of Pair, Lacks and Grind.
type pieces struct {
	shafts, holes []int
	clearance     api.Span
}

func (p pieces) fits(shaft, hole int) bool {
	gap := p.holes[hole] - p.shafts[shaft]
	return p.clearance.Low <= gap && gap <= p.clearance.High
}

// without returns pieces without those shafts and the holes that a pairing's beginning uses.
func (p pieces) without(beginning []int) pieces {
	rest := pieces{shafts: p.shafts[len(beginning):], clearance: p.clearance}
	for j, hole := range p.holes {
		if !slices.Contains(beginning, j) {
			rest.holes = append(rest.holes, hole)
		}
	}
	return rest
}

// most returns how many shafts can be paired: as all ranges are equally wide, the least shaft may take the least hole in its range, and so on.
func (p pieces) most() int {
	shafts, holes := slices.Sorted(slices.Values(p.shafts)), slices.Sorted(slices.Values(p.holes))
	n := 0
	for len(shafts) > 0 && len(holes) > 0 {
		gap := holes[0] - shafts[0]
		switch {
		case gap < p.clearance.Low:
			holes = holes[1:]
		case gap > p.clearance.High:
			shafts = shafts[1:]
		default:
			n++
			shafts, holes = shafts[1:], holes[1:]
		}
	}
	return n
}

// pairings gives out all pairings.
func (p pieces) pairings(yield func([]int)) {
	var extend func(beginning []int)
	extend = func(beginning []int) {
		shaft := len(beginning)
		if shaft == len(p.shafts) {
			yield(beginning)
			return
		}
		for hole := range p.holes {
			if p.fits(shaft, hole) && !slices.Contains(beginning, hole) {
				extend(append(slices.Clone(beginning), hole))
			}
		}
		extend(append(slices.Clone(beginning), -1))
	}
	extend(nil)
}

// bestPairing returns, of all pairings of the greatest number, the lexicographically least one, and the number.
func (p pieces) bestPairing() ([]int, int) {
	var best []int
	most := -1
	p.pairings(func(x []int) {
		n := paired(x)
		if n > most || n == most && slices.CompareFunc(x, best, compareHoles) < 0 {
			best, most = x, n
		}
	})
	return best, most
}

func paired(pairing []int) int {
	n := 0
	for _, hole := range pairing {
		if hole >= 0 {
			n++
		}
	}
	return n
}

// compareHoles is the order of holes in which -1 is greater than every hole.
func compareHoles(a, b int) int {
	switch {
	case a == b:
		return 0
	case b == -1 || a != -1 && a < b:
		return -1
	}
	return 1
}

// isPairing reports whether x is a pairing.
func (p pieces) isPairing(x []int) bool {
	if len(x) != len(p.shafts) {
		return false
	}
	used := map[int]bool{}
	for shaft, hole := range x {
		if hole == -1 {
			continue
		}
		if hole < 0 || hole >= len(p.holes) || used[hole] || !p.fits(shaft, hole) {
			return false
		}
		used[hole] = true
	}
	return true
}

// shown is what Shows says of spans that are as Lacks has them.
func (p pieces) shown(spans []api.Span) int {
	n := 0
	for _, s := range spans {
		for _, shaft := range p.shafts {
			if s.Low <= shaft+p.clearance.Low && shaft+p.clearance.High <= s.High {
				n++
			}
		}
		for _, hole := range p.holes {
			if s.Low <= hole && hole <= s.High {
				n--
			}
		}
	}
	return n
}

// isLacks reports whether spans are as Lacks has them.
func isLacks(spans []api.Span) bool {
	for i, s := range spans {
		if s.Low < -2*api.MaxSize || s.Low > s.High || s.High > 2*api.MaxSize {
			return false
		}
		if i > 0 && spans[i-1].High >= s.Low {
			return false
		}
	}
	return len(spans) <= api.MaxPieces
}

// grinding returns by how much a shaft is made thinner for a hole, and whether it is possible.
func (p pieces) grinding(shaft, hole int) (int, bool) {
	gap := hole - shaft
	return max(0, p.clearance.Low-gap), gap <= p.clearance.High
}

// bestGrinding goes through all assignments.
func (p pieces) bestGrinding() ([]int, int, bool) {
	var best []int
	least, found := 0, false
	var extend func(beginning []int, total int)
	extend = func(beginning []int, total int) {
		shaft := len(beginning)
		if shaft == len(p.shafts) {
			if !found || total < least { // they come in lexicographic order
				best, least, found = beginning, total, true
			}
			return
		}
		for hole, size := range p.holes {
			by, possible := p.grinding(p.shafts[shaft], size)
			if possible && !slices.Contains(beginning, hole) {
				extend(append(slices.Clone(beginning), hole), total+by)
			}
		}
	}
	extend(nil, 0)
	return best, least, found
}

// leastGrinding returns the least total: where shafts and holes are sorted, some best assignment does not cross, for what a pair costs is a convex function of its gap.
func (p pieces) leastGrinding() (int, bool) {
	const endless = math.MaxInt / 4
	shafts, holes := slices.Sorted(slices.Values(p.shafts)), slices.Sorted(slices.Values(p.holes))
	least := make([]int, len(holes)+1) // of the shafts so far, with the holes up to each one
	for _, shaft := range shafts {
		next := make([]int, len(holes)+1)
		next[0] = endless
		for j, hole := range holes {
			next[j+1] = next[j]
			if by, possible := p.grinding(shaft, hole); possible && least[j] < endless {
				next[j+1] = min(next[j+1], least[j]+by)
			}
		}
		least = next
	}
	total := least[len(holes)]
	return total, total < endless
}
