package rate

import (
	"tourbillon/api"
	"tourbillon/gear"
)

// Longest returns the longest run with a small error.
func Longest(r []api.Reading, most api.Frac) (int, int, api.Errno) {
	if !valid(r) || !validMost(most) {
		return 0, 0, api.ErrArg
	}
	first, length := 0, 2
	// A part of a run has no greater error than the run: a run that is longer than length begins with one that is longer by 1.
	for k := range r {
		for k+length < len(r) && isSmall(r[k:k+length+1], most) {
			first = k
			length++
		}
	}
	return first, first + length - 1, api.OK
}

// Pieces parts readings into the fewest runs with small errors.
func Pieces(r []api.Reading, most api.Frac) ([]int, api.Errno) {
	if !valid(r) || !validMost(most) {
		return nil, api.ErrArg
	}
	firsts := []int{0}
	for k := 1; k < len(r); k++ {
		if !isSmall(r[firsts[len(firsts)-1]:k+1], most) {
			firsts = append(firsts, k)
		}
	}
	return firsts, api.OK
}

// validMost reports whether most is a valid Frac that is not below 0.
func validMost(most api.Frac) bool {
	return gear.Check(most) == api.OK && most.Num >= 0
}

// isSmall reports whether the Least error of at least two readings is at most `most`.
func isSmall(r []api.Reading, most api.Frac) bool {
	return !isLess(most, narrowest(r).size())
}
