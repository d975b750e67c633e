package probe_test

import (
	"fmt"
	"math"
	"math/rand"
	"slices"
	"testing"

	"tourbillon/api"
)

// The tests compare the package with trees of lists: all plans that there are for a few faults, the cheapest trees for many, all lists of tests, and codes whose nodes are lists of weights.

const most = api.MaxCost

// example is a case of the document, with a name that Go allows.
type example struct {
	faults []api.Fault
	tests  []api.Test
}

func weights(numbers ...int) []api.Fault {
	var faults []api.Fault
	for _, n := range numbers {
		faults = append(faults, api.Fault{Weight: n})
	}
	return faults
}

func equal(n, weight int) []api.Fault {
	return weights(slices.Repeat([]int{weight}, n)...)
}

func show(cost int, faults ...int) api.Test {
	return api.Test{Cost: cost, Shows: faults}
}

func does(test int) api.Branch {
	return api.Branch{Test: test}
}

func ends(faults ...int) api.Branch {
	return api.Branch{Test: -1, Faults: faults}
}

// upTo returns the numbers from 0 to n-1.
func upTo(n int) []int {
	numbers := []int{}
	for i := range n {
		numbers = append(numbers, i)
	}
	return numbers
}

// divide returns the faults of a list that a test shows, and the others.
func (x example) divide(list []int, test int) ([]int, []int) {
	var shown, others []int
	for _, fault := range list {
		if slices.Contains(x.tests[test].Shows, fault) {
			shown = append(shown, fault)
		} else {
			others = append(others, fault)
		}
	}
	return shown, others
}

// dividers returns the tests that split a list.
func (x example) dividers(list []int) []int {
	var tests []int
	for test := range x.tests {
		if shown, others := x.divide(list, test); len(shown) > 0 && len(others) > 0 {
			tests = append(tests, test)
		}
	}
	return tests
}

// tree is a plan for a list of faults.
type tree struct {
	list          []int
	test          int // -1: an end
	shown, others *tree
}

// trees returns all plans for a list of faults.
func (x example) trees(list []int) []*tree {
	tests := x.dividers(list)
	if len(tests) == 0 {
		return []*tree{{list: list, test: -1}}
	}
	var all []*tree
	for _, test := range tests {
		shown, others := x.divide(list, test)
		rights := x.trees(others)
		for _, a := range x.trees(shown) {
			for _, b := range rights {
				all = append(all, &tree{list, test, a, b})
			}
		}
	}
	return all
}

// preorder returns a tree as a plan.
func (t *tree) preorder() []api.Branch {
	if t.test < 0 {
		return []api.Branch{ends(t.list...)}
	}
	return slices.Concat([]api.Branch{does(t.test)}, t.shown.preorder(), t.others.preorder())
}

// way returns the tests on the way to a fault, and the end that has it.
func (t *tree) way(fault int) ([]int, []int) {
	var done []int
	for t.test >= 0 {
		done = append(done, t.test)
		if slices.Contains(t.shown.list, fault) {
			t = t.shown
		} else {
			t = t.others
		}
	}
	return done, t.list
}

// cost returns a tree's cost, fault by fault.
func (x example) cost(t *tree) int {
	sum := 0
	for _, fault := range t.list {
		done, _ := t.way(fault)
		for _, test := range done {
			sum += x.faults[fault].Weight * x.tests[test].Cost
		}
	}
	return sum
}

// cheapest returns the tree that Best has to return as a plan, and its cost.
func (x example) cheapest(list []int, known map[string]*tree) (*tree, int) {
	if t := known[fmt.Sprint(list)]; t != nil {
		return t, x.cost(t)
	}
	best, least := &tree{list: list, test: -1}, 0
	for _, test := range x.dividers(list) {
		shown, others := x.divide(list, test)
		a, _ := x.cheapest(shown, known)
		b, _ := x.cheapest(others, known)
		t := &tree{list, test, a, b}
		if cost := x.cost(t); best.test < 0 || cost < least {
			best, least = t, cost
		}
	}
	known[fmt.Sprint(list)] = best
	return best, least
}

// parse reads a plan for a list from the beginning of branches, and returns what is left over; nil if there is none.
func (x example) parse(list []int, branches []api.Branch) (*tree, []api.Branch) {
	if len(branches) == 0 {
		return nil, nil
	}
	b, rest := branches[0], branches[1:]
	dividers := x.dividers(list)
	switch {
	case b.Test == -1 && len(dividers) == 0 && slices.Equal(b.Faults, list):
		return &tree{list: list, test: -1}, rest
	case slices.Contains(dividers, b.Test) && len(b.Faults) == 0:
		shown, others := x.divide(list, b.Test)
		t := &tree{list: list, test: b.Test}
		if t.shown, rest = x.parse(shown, rest); t.shown == nil {
			return nil, nil
		}
		if t.others, rest = x.parse(others, rest); t.others == nil {
			return nil, nil
		}
		return t, rest
	}
	return nil, nil
}

// whole returns the tree of a plan for all faults; nil if branches are none.
func (x example) whole(branches []api.Branch) *tree {
	t, rest := x.parse(upTo(len(x.faults)), branches)
	if len(rest) > 0 {
		return nil
	}
	return t
}

// apart reports whether one of some tests distinguishes two faults.
func (x example) apart(tests []int, a, b int) bool {
	return slices.ContainsFunc(tests, func(test int) bool {
		return slices.Contains(x.tests[test].Shows, a) != slices.Contains(x.tests[test].Shows, b)
	})
}

// classes returns the faults that some tests do not distinguish.
func (x example) classes(tests []int) [][]int {
	var classes [][]int
	for fault := range x.faults {
		first := 0
		for first < fault && x.apart(tests, first, fault) {
			first++
		}
		if first == fault {
			classes = append(classes, nil)
		}
		for i, class := range classes {
			if first == fault && len(class) == 0 || slices.Contains(class, first) {
				classes[i] = append(class, fault)
			}
		}
	}
	return classes
}

// lists returns all rising lists of numbers below n.
func lists(n int) [][]int {
	if n == 0 {
		return [][]int{nil}
	}
	all := lists(n - 1)
	for _, l := range lists(n - 1) {
		all = append(all, append(slices.Clone(l), n-1))
	}
	return all
}

func (x example) total(tests []int) int {
	sum := 0
	for _, test := range tests {
		sum += x.tests[test].Cost
	}
	return sum
}

// needed returns the best of all lists of tests that distinguish as much as all tests.
func (x example) needed() []int {
	every := upTo(len(x.tests))
	best, classes := every, len(x.classes(every))
	for _, l := range lists(len(x.tests)) {
		a, b := []int{x.total(l), len(l)}, []int{x.total(best), len(best)}
		if slices.Compare(append(a, l...), append(b, best...)) < 0 && len(x.classes(l)) == classes {
			best = l
		}
	}
	return best
}

// knot is a node of a code.
type knot struct {
	weight int
	list   []int
}

// less is the order in which nodes are joined.
func less(a, b knot) bool {
	return a.weight < b.weight || a.weight == b.weight && slices.Min(a.list) < slices.Min(b.list)
}

// takeLeast takes the least node from nodes.
func takeLeast(nodes []knot) (knot, []knot) {
	at := 0
	for i := range nodes {
		if less(nodes[i], nodes[at]) {
			at = i
		}
	}
	return nodes[at], slices.Concat(nodes[:at], nodes[at+1:])
}

// huffman returns the lengths that the document asks for.
func huffman(numbers []int) []int {
	var nodes []knot
	for i, n := range numbers {
		nodes = append(nodes, knot{n, []int{i}})
	}
	lengths := make([]int, len(numbers))
	for len(nodes) > 1 {
		var a, b knot
		a, nodes = takeLeast(nodes)
		b, nodes = takeLeast(nodes)
		c := knot{a.weight + b.weight, slices.Concat(b.list, a.list)}
		for _, i := range c.list {
			lengths[i]++
		}
		nodes = append([]knot{c}, nodes...)
	}
	return lengths
}

func sumOf(numbers, lengths []int) int {
	sum := 0
	for i, n := range numbers {
		sum += n * lengths[i]
	}
	return sum
}

// leastSum returns the least sum of a code: that of the best tree over the weights in rising order.
func leastSum(numbers []int) int {
	sorted := slices.Sorted(slices.Values(numbers))
	n := len(sorted)
	sums := make([][]int, n) // of the weights from i to j
	for i := n - 1; i >= 0; i-- {
		sums[i] = make([]int, n)
		weight := sorted[i]
		for j := i + 1; j < n; j++ {
			weight += sorted[j]
			least := math.MaxInt
			for k := i; k < j; k++ {
				least = min(least, sums[i][k]+sums[k+1][j])
			}
			sums[i][j] = weight + least
		}
	}
	return sums[0][n-1]
}

// isCode reports whether the sum of 2^(-length) is at most 1.
func isCode(lengths []int) bool {
	sum := uint64(0)
	for _, l := range lengths {
		if l < 0 || l > 62 {
			return false
		}
		sum += 1 << (62 - l)
		if sum > 1<<62 {
			return false
		}
	}
	return true
}

// randomExample returns a case with low costs, so that many plans cost the same, and with tests that are alike or split nothing.
func randomExample(r *rand.Rand, faults, tests, high int) example {
	var x example
	for range faults {
		x.faults = append(x.faults, api.Fault{Weight: 1 + r.Intn(high)})
	}
	for range tests {
		test := api.Test{Cost: r.Intn(high + 1)}
		part := r.Intn(5)
		for fault := range faults {
			if r.Intn(4) < part {
				test.Shows = append(test.Shows, fault)
			}
		}
		if len(x.tests) > 0 && r.Intn(6) == 0 {
			test.Shows = x.tests[r.Intn(len(x.tests))].Shows
		}
		x.tests = append(x.tests, test)
	}
	return x
}

// bits returns four tests that tell ten faults apart by the digits of their numbers, at cost 1 each.
func bits() []api.Test {
	return []api.Test{show(1, 1, 3, 5, 7, 9), show(1, 2, 3, 6, 7), show(1, 4, 5, 6, 7), show(1, 8, 9)}
}

// singles returns tests each of which shows a single one of the first n faults.
func singles(n, cost int) []api.Test {
	var tests []api.Test
	for i := range n {
		tests = append(tests, show(cost, i))
	}
	return tests
}

// examples returns valid cases: the ends of what is valid, and random ones of all sizes.
func examples() []example {
	all := []example{
		{weights(1, 3), []api.Test{show(2, 1)}},
		{weights(1), nil}, {weights(most), []api.Test{}}, {weights(7), []api.Test{show(0), show(most, 0)}},
		{equal(api.MaxFaults, 1), nil}, {equal(api.MaxFaults, most), singles(api.MaxFaults, most)}, {equal(api.MaxFaults, 1), bits()},
		{equal(api.MaxFaults, most), slices.Repeat([]api.Test{show(most, 0, 1, 2)}, api.MaxTests)},
		{weights(2, 1, 2), []api.Test{show(3), show(5, 0, 1, 2)}},
		{weights(2, 1, 2), []api.Test{show(0, 0), show(0, 1), show(0, 2)}},
		{weights(1, 2, 3, 4), []api.Test{show(4, 0, 1), show(4, 2, 3), show(4, 0, 2), show(4, 1, 3), show(9, 0), show(9, 1, 2, 3)}},
		{equal(api.MaxFaults, 3), slices.Concat(bits(), singles(api.MaxFaults, 2), []api.Test{show(0), show(0, upTo(api.MaxFaults)...)})},
	}
	r := rand.New(rand.NewSource(11))
	for k := range 300 {
		all = append(all, randomExample(r, 1+k%api.MaxFaults, r.Intn(9), []int{1, 2, 5, most}[r.Intn(4)]))
	}
	for k := range 20 {
		all = append(all, randomExample(r, api.MaxFaults-k%3, api.MaxTests-k%2, []int{1, 3, most}[r.Intn(3)]))
	}
	return all
}

// smallExamples returns cases of which all plans can be searched.
func smallExamples() []example {
	r := rand.New(rand.NewSource(12))
	var all []example
	for k := range 3000 {
		all = append(all, randomExample(r, 1+k%5, r.Intn(7), []int{1, 2, 9}[r.Intn(3)]))
	}
	return all
}

// far returns numbers that are outside every range of the package, or in none of its lists.
func far() []int {
	return []int{math.MinInt, math.MinInt + 1, -1 << 32, 1 << 32, 1<<32 + 1, 64, -64, math.MaxInt - 1, math.MaxInt}
}

// badExamples returns cases that are not valid.
func badExamples() []example {
	good, tests := weights(1, 3), []api.Test{show(2, 1)}
	bad := []example{
		{}, {nil, tests}, {[]api.Fault{}, tests}, {nil, bits()}, {equal(api.MaxFaults+1, 1), nil}, {equal(api.MaxFaults+1, 1), tests}, {equal(1000, 1), nil},
		{good, slices.Repeat(tests, api.MaxTests+1)}, {good, slices.Repeat(tests, 1000)}, {good, make([]api.Test, api.MaxTests+1)},
		{weights(0), nil}, {weights(-1), nil}, {weights(most + 1), nil}, {weights(1, 0), tests}, {weights(1, most+1), tests}, {weights(0, 1), tests}, {weights(1, -3), tests},
		{append(equal(api.MaxFaults-1, 1), api.Fault{}), nil},
		{good, []api.Test{show(-1, 1)}}, {good, []api.Test{show(most+1, 1)}}, {good, []api.Test{show(-1)}}, {good, append(singles(2, 1), show(most+1))},
		{good, append(slices.Repeat(tests, api.MaxTests-1), show(-1, 1))},
	}
	for _, shows := range [][]int{{-1}, {2}, {0, 2}, {-1, 0}, {-1, 1}, {0, 0}, {1, 1}, {1, 0}, {0, 1, 1}, {0, 1, 0}, {0, 1, 2}, {2, 1}, {1, -1}, {0, 0, 1}, slices.Repeat([]int{0}, 100), upTo(100)} {
		bad = append(bad, example{good, []api.Test{show(0, shows...)}}, example{good, []api.Test{show(2, 1), show(most, shows...)}})
	}
	bad = append(bad, example{weights(1), []api.Test{show(1, 1)}}, example{equal(api.MaxFaults, 1), []api.Test{show(1, api.MaxFaults)}}, example{equal(api.MaxFaults, 1), []api.Test{show(1, 0, 5, 4)}})
	for _, n := range far() {
		if n < 0 || n > most {
			bad = append(bad, example{weights(n), nil}, example{weights(1, n), tests}, example{good, []api.Test{show(n, 1)}})
		}
		bad = append(bad, example{good, []api.Test{show(1, n)}}, example{good, []api.Test{show(1, 0, n)}}, example{good, []api.Test{show(1, n, 1)}})
	}
	return bad
}

func fails(t *testing.T, e, want api.Errno, zero bool, call string, arguments ...any) {
	t.Helper()
	if e != want || !zero {
		t.Errorf("%s%v: %d, not %d; other results zero: %t", call, arguments, e, want, zero)
	}
}

func samePlan(a, b []api.Branch) bool {
	return slices.EqualFunc(a, b, func(x, y api.Branch) bool { return x.Test == y.Test && slices.Equal(x.Faults, y.Faults) })
}

func sameLists(a, b [][]int) bool {
	return slices.EqualFunc(a, b, slices.Equal)
}
