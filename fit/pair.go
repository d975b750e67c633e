package fit

import (
	"slices"

	"tourbillon/api"
)

// Pair pairs the greatest number of shafts with holes.
func Pair(shafts, holes []int, clearance api.Span) ([]int, int, api.Errno) {
	if !validPieces(shafts, holes, clearance) {
		return nil, 0, api.ErrArg
	}
	m := pairMost(whatFits(shafts, holes, clearance))
	m.settle()
	return m.holeOf, m.paired(), api.OK
}

// Lacks returns spans that show why no more shafts are paired, and how many shafts are left over.
func Lacks(shafts, holes []int, clearance api.Span) ([]api.Span, int, api.Errno) {
	if !validPieces(shafts, holes, clearance) {
		return nil, 0, api.ErrArg
	}
	m := pairMost(whatFits(shafts, holes, clearance))
	var ranges []api.Span
	for _, shaft := range m.stuck() {
		ranges = append(ranges, rangeOf(shafts[shaft], clearance))
	}
	return union(ranges), len(shafts) - m.paired(), api.OK
}

// Shows returns how many shafts spans show to be left over.
func Shows(shafts, holes []int, clearance api.Span, spans []api.Span) (int, api.Errno) {
	if !validPieces(shafts, holes, clearance) {
		return 0, api.ErrArg
	}
	if !validLacks(spans) {
		return 0, api.ErrForm
	}
	shown := 0
	for _, shaft := range shafts {
		if liesInOne(rangeOf(shaft, clearance), spans) {
			shown++
		}
	}
	for _, hole := range holes {
		if liesInOne(single(hole), spans) {
			shown--
		}
	}
	return shown, api.OK
}

// whatFits returns for each shaft which holes it fits.
func whatFits(shafts, holes []int, clearance api.Span) [][]bool {
	var fits [][]bool
	for _, shaft := range shafts {
		row := make([]bool, len(holes))
		for j, hole := range holes {
			row[j] = lies(single(hole), rangeOf(shaft, clearance))
		}
		fits = append(fits, row)
	}
	return fits
}

// rangeOf returns the sizes of the holes that a shaft fits.
func rangeOf(shaft int, clearance api.Span) api.Span {
	return plus(single(shaft), clearance)
}

// union returns disjoint and rising spans that hold what is in ranges, and nothing else. All ranges are equally wide, so that of two the one that begins later ends later.
func union(ranges []api.Span) []api.Span {
	slices.SortFunc(ranges, func(a, b api.Span) int { return a.Low - b.Low })
	var spans []api.Span
	for _, r := range ranges {
		last := len(spans) - 1
		if last >= 0 && r.Low <= spans[last].High {
			spans[last].High = r.High
		} else {
			spans = append(spans, r)
		}
	}
	return spans
}

func liesInOne(a api.Span, spans []api.Span) bool {
	return slices.ContainsFunc(spans, func(s api.Span) bool { return lies(a, s) })
}

// validLacks reports whether spans are of the form that Lacks returns.
func validLacks(spans []api.Span) bool {
	if len(spans) > api.MaxPieces {
		return false
	}
	for i, s := range spans {
		if !inOrder(s, 2*api.MaxSize) || i > 0 && s.Low <= spans[i-1].High {
			return false
		}
	}
	return true
}

func validPieces(shafts, holes []int, clearance api.Span) bool {
	return validSizes(shafts) && validSizes(holes) && validSpan(clearance)
}

func validSizes(sizes []int) bool {
	if len(sizes) > api.MaxPieces {
		return false
	}
	for _, size := range sizes {
		if !validSpan(single(size)) {
			return false
		}
	}
	return true
}
