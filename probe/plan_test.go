package probe_test

import (
	"math/rand"
	"slices"
	"testing"

	"tourbillon/api"
	"tourbillon/probe"
)

func TestBestByHand(t *testing.T) {
	two := []api.Test{show(2, 1)}
	for _, c := range []struct {
		faults []api.Fault
		tests  []api.Test
		plan   []api.Branch
		cost   int
	}{
		{weights(1, 3), two, []api.Branch{does(0), ends(1), ends(0)}, 8},
		{weights(1, 3), nil, []api.Branch{ends(0, 1)}, 0},
		{weights(1), nil, []api.Branch{ends(0)}, 0},
		{weights(most), []api.Test{show(0), show(0, 0)}, []api.Branch{ends(0)}, 0},
		{equal(api.MaxFaults, most), nil, []api.Branch{ends(upTo(api.MaxFaults)...)}, 0},
		{weights(1, 3), []api.Test{show(0), show(0, 0, 1)}, []api.Branch{ends(0, 1)}, 0},
		{weights(1, 3), []api.Test{show(0), show(0, 0, 1), show(2, 0)}, []api.Branch{does(2), ends(0), ends(1)}, 8},
		{weights(1, 3), []api.Test{show(0, 0)}, []api.Branch{does(0), ends(0), ends(1)}, 0}, // a test that costs nothing still has to be done
		{weights(1, 3), []api.Test{show(most, 0)}, []api.Branch{does(0), ends(0), ends(1)}, 4 * most},
		{weights(most, most), []api.Test{show(most, 0)}, []api.Branch{does(0), ends(0), ends(1)}, 2 * most * most},
		{weights(1, 1), []api.Test{show(3, 0), show(2, 1), show(2, 0)}, []api.Branch{does(1), ends(1), ends(0)}, 4}, // the first of the cheapest
		{weights(1, 1, 1), []api.Test{show(1, 0), show(1, 1), show(1, 2)}, []api.Branch{does(0), ends(0), does(1), ends(1), ends(2)}, 5},
		{weights(1, 1, 5), []api.Test{show(1, 0), show(1, 1), show(1, 2)}, []api.Branch{does(2), ends(2), does(0), ends(0), ends(1)}, 9},
		{weights(1, 1, 5), []api.Test{show(1, 0), show(1, 1), show(3, 2)}, []api.Branch{does(0), ends(0), does(1), ends(1), ends(2)}, 13},
		{weights(4, 1, 1), []api.Test{show(1, 1), show(2, 0)}, []api.Branch{does(1), ends(0), does(0), ends(1), ends(2)}, 14},
		{weights(1, 2, 3, 4), []api.Test{show(5, 1, 3)}, []api.Branch{does(0), ends(1, 3), ends(0, 2)}, 50}, // some are never distinguished
		{weights(1, 2, 3, 4), []api.Test{show(5, 1, 3), show(1, 0, 2)}, []api.Branch{does(1), ends(0, 2), ends(1, 3)}, 10},
	} {
		plan, cost, e := probe.Best(c.faults, c.tests)
		if !samePlan(plan, c.plan) || cost != c.cost || e != api.OK {
			t.Errorf("Best(%v, %v) = %v, %d, %d, not %v, %d", c.faults, c.tests, plan, cost, e, c.plan, c.cost)
		}
	}
}

func TestBestGreat(t *testing.T) {
	var chain []api.Branch
	for i := range api.MaxFaults - 1 {
		chain = append(chain, does(i), ends(i))
	}
	chain = append(chain, ends(api.MaxFaults-1))
	for _, tests := range [][]api.Test{singles(9, most), singles(10, most), append(singles(10, most), slices.Repeat([]api.Test{show(most, 3)}, 6)...)} {
		plan, cost, e := probe.Best(equal(api.MaxFaults, most), tests)
		if !samePlan(plan, chain) || cost != 54*most*most || e != api.OK {
			t.Errorf("Best = %v, %d, %d", plan, cost, e)
		}
	}
	if plan, cost, e := probe.Best(equal(api.MaxFaults, 1), bits()); len(plan) != 19 || plan[0].Test != 0 || cost != 34 || e != api.OK {
		t.Errorf("Best = %v, %d, %d", plan, cost, e)
	}
}

// TestBest is P1: Best's plan is the one of lists, and so no plan costs less.
func TestBest(t *testing.T) {
	for _, x := range examples() {
		want, least := x.cheapest(upTo(len(x.faults)), map[string]*tree{})
		plan, cost, e := probe.Best(x.faults, x.tests)
		if !samePlan(plan, want.preorder()) || cost != least || e != api.OK {
			t.Errorf("Best(%v) = %v, %d, %d, not %v, %d", x, plan, cost, e, want.preorder(), least)
		}
		if paid, e := probe.Cost(x.faults, x.tests, plan); paid != cost || e != api.OK {
			t.Errorf("Cost(%v, %v) = %d, %d, not %d", x, plan, paid, e, cost)
		}
	}
}

// checkLowest says whether each test of a tree is the lowest one with which the least cost for its set is reached, among all plans.
func checkLowest(t *testing.T, x example, best *tree) {
	t.Helper()
	if best.test < 0 {
		return
	}
	all := x.trees(best.list)
	lowest := all[0]
	for _, other := range all {
		a, b := []int{x.cost(other), other.test}, []int{x.cost(lowest), lowest.test}
		if slices.Compare(a, b) < 0 {
			lowest = other
		}
	}
	if x.cost(best) != x.cost(lowest) || best.test != lowest.test {
		t.Errorf("of %v: %v costs %d, %v costs %d", x, best.preorder(), x.cost(best), lowest.preorder(), x.cost(lowest))
	}
	checkLowest(t, x, best.shown)
	checkLowest(t, x, best.others)
}

// TestAllPlans is P1 and P2 by all plans that there are: none costs less than Best's, and all end with the classes of Apart.
func TestAllPlans(t *testing.T) {
	ties := 0
	for _, x := range smallExamples() {
		plan, least, e := probe.Best(x.faults, x.tests)
		best := x.whole(plan)
		if best == nil || e != api.OK {
			t.Fatalf("Best(%v) = %v, %d, %d", x, plan, least, e)
		}
		checkLowest(t, x, best)
		classes, _ := probe.Apart(x.faults, x.tests)
		for _, other := range x.trees(upTo(len(x.faults))) {
			branches := other.preorder()
			cost, e := probe.Cost(x.faults, x.tests, branches)
			if cost != x.cost(other) || cost < least || e != api.OK {
				t.Fatalf("Cost(%v, %v) = %d, %d; the least is %d", x, branches, cost, e, least)
			}
			if cost == least && !samePlan(branches, plan) {
				ties++
			}
			if ends := endsOf(branches); !sameLists(ends, classes) {
				t.Fatalf("the ends of %v in %v are %v, not %v", branches, x, ends, classes)
			}
			checkWays(t, x, other)
		}
	}
	if ties < 300 {
		t.Errorf("only %d other plans cost as little as the best one", ties)
	}
}

// endsOf returns the faults of a plan's ends, by their first fault.
func endsOf(plan []api.Branch) [][]int {
	var ends [][]int
	for _, b := range plan {
		if b.Test == -1 {
			ends = append(ends, b.Faults)
		}
	}
	slices.SortFunc(ends, slices.Compare)
	return ends
}

func checkWays(t *testing.T, x example, plan *tree) {
	t.Helper()
	branches := plan.preorder()
	for fault := range x.faults {
		done, left := plan.way(fault)
		a, b, e := probe.Ways(x.faults, x.tests, branches, fault)
		if !slices.Equal(a, done) || !slices.Equal(b, left) || e != api.OK {
			t.Fatalf("Ways(%v, %v, %d) = %v, %v, %d, not %v, %v", x, branches, fault, a, b, e, done, left)
		}
	}
}

// TestWays follows the best plans, and others, of cases of all sizes; the ends are the classes of Apart (P2).
func TestWays(t *testing.T) {
	r := rand.New(rand.NewSource(13))
	for _, x := range examples() {
		best, _ := x.cheapest(upTo(len(x.faults)), map[string]*tree{})
		classes, _ := probe.Apart(x.faults, x.tests)
		for _, plan := range []*tree{best, x.randomTree(r, best.list), x.randomTree(r, best.list)} {
			checkWays(t, x, plan)
			branches := plan.preorder()
			if cost, e := probe.Cost(x.faults, x.tests, branches); cost != x.cost(plan) || e != api.OK {
				t.Errorf("Cost(%v, %v) = %d, %d, not %d", x, branches, cost, e, x.cost(plan))
			}
			if ends := endsOf(branches); !sameLists(ends, classes) {
				t.Errorf("the ends of %v in %v are %v, not %v", branches, x, ends, classes)
			}
		}
	}
}

// randomTree returns any plan for a list.
func (x example) randomTree(r *rand.Rand, list []int) *tree {
	tests := x.dividers(list)
	if len(tests) == 0 {
		return &tree{list: list, test: -1}
	}
	test := tests[r.Intn(len(tests))]
	shown, others := x.divide(list, test)
	return &tree{list, test, x.randomTree(r, shown), x.randomTree(r, others)}
}

func TestWaysByHand(t *testing.T) {
	faults, tests := weights(1, 2, 3, 4), []api.Test{show(5, 0), show(7, 1, 2), show(9, 1)}
	plan := []api.Branch{does(1), does(2), ends(1), ends(2), does(0), ends(0), ends(3)}
	for fault, want := range [][]int{{1, 0}, {1, 2}, {1, 2}, {1, 0}} {
		done, left, e := probe.Ways(faults, tests, plan, fault)
		if !slices.Equal(done, want) || !slices.Equal(left, []int{fault}) || e != api.OK {
			t.Errorf("Ways(%d) = %v, %v, %d", fault, done, left, e)
		}
	}
	if cost, e := probe.Cost(faults, tests, plan); cost != 10*7+5*9+5*5 || e != api.OK {
		t.Errorf("Cost = %d, %d", cost, e)
	}
	done, left, e := probe.Ways(faults, nil, []api.Branch{ends(0, 1, 2, 3)}, 2)
	if len(done) != 0 || !slices.Equal(left, []int{0, 1, 2, 3}) || e != api.OK {
		t.Errorf("Ways = %v, %v, %d", done, left, e)
	}
}

// checkPlan compares Cost and Ways of some branches with what the tree of these branches says, if there is one.
func checkPlan(t *testing.T, x example, branches []api.Branch) bool {
	t.Helper()
	plan := x.whole(branches)
	cost, e := probe.Cost(x.faults, x.tests, branches)
	if plan == nil {
		fails(t, e, api.ErrForm, cost == 0, "Cost", x, branches)
		for fault := range x.faults {
			done, left, e := probe.Ways(x.faults, x.tests, branches, fault)
			fails(t, e, api.ErrForm, len(done) == 0 && len(left) == 0, "Ways", x, branches, fault)
		}
		return false
	}
	if cost != x.cost(plan) || e != api.OK {
		t.Errorf("Cost(%v, %v) = %d, %d, not %d", x, branches, cost, e, x.cost(plan))
	}
	checkWays(t, x, plan)
	return true
}

func TestFormByHand(t *testing.T) {
	x := example{weights(1, 2, 3, 4), []api.Test{show(5, 0), show(7, 1, 2), show(9, 1), show(0), show(0, 0, 1, 2, 3)}}
	good := []api.Branch{does(1), does(2), ends(1), ends(2), does(0), ends(0), ends(3)}
	if !checkPlan(t, x, good) {
		t.Fatalf("%v is no plan", good)
	}
	for _, bad := range [][]api.Branch{
		nil, {}, good[:1], good[:3], good[:6], good[1:], append(slices.Clone(good), ends(3)), append(slices.Clone(good), ends()), append(slices.Clone(good), does(0)), append(slices.Clone(good), good...),
		{does(1), does(2), ends(1), ends(2), ends(0, 3)}, // a test would still split
		{ends(0, 1, 2, 3)}, // as here
		{does(1), ends(1, 2), does(0), ends(0), ends(3)},                         // and here
		{does(1), does(0), ends(1), ends(2), does(0), ends(0), ends(3)},          // shows none of 1 and 2
		{does(1), does(1), ends(1), ends(2), does(0), ends(0), ends(3)},          // shows both
		{does(3), does(1), does(2), ends(1), ends(2), does(0), ends(0), ends(3)}, // shows nothing
		{does(4), does(1), does(2), ends(1), ends(2), does(0), ends(0), ends(3)}, // shows all
		{does(3), ends(), does(1), does(2), ends(1), ends(2), does(0), ends(0), ends(3)},
		{does(4), does(1), does(2), ends(1), ends(2), does(0), ends(0), ends(3), ends()},
		{does(1), does(0), ends(0), ends(3), does(2), ends(1), ends(2)}, // the others first
		{does(1), does(2), ends(2), ends(1), does(0), ends(0), ends(3)}, // the faults of another end
		{does(1), does(2), ends(1), ends(2), does(0), ends(0), ends(2)},
		{does(1), does(2), ends(1), ends(2), does(0), ends(0), ends()},
		{does(1), does(2), ends(1), ends(2), does(0), ends(0), ends(3, 3)},
		{does(1), does(2), ends(1), ends(2), does(0), ends(0), ends(0, 3)},
		{does(1), does(2), ends(1), ends(2), does(0), ends(0), ends(-1)},
		{does(1), does(2), ends(1), ends(2), does(0), ends(0), ends(67)},
		{does(1), does(2), ends(1), ends(2), does(0), ends(0), {Test: -2, Faults: []int{3}}},
		{does(1), does(2), ends(1), ends(2), does(0), ends(0), {Test: 0, Faults: []int{3}}},
		{{Test: 1, Faults: []int{0, 1, 2, 3}}, does(2), ends(1), ends(2), does(0), ends(0), ends(3)}, // a test with faults
		{does(1), does(5), ends(1), ends(2), does(0), ends(0), ends(3)},                              // no such test
	} {
		if checkPlan(t, x, bad) {
			t.Errorf("%v is a plan", bad)
		}
	}
	pairs := example{weights(1, 2, 3), []api.Test{show(5, 1)}}
	for _, c := range []struct {
		plan []api.Branch
		ok   bool
	}{
		{[]api.Branch{does(0), ends(1), ends(0, 2)}, true},
		{[]api.Branch{{Test: 0, Faults: []int{}}, ends(1), ends(0, 2)}, true},
		{[]api.Branch{does(0), ends(1), ends(2, 0)}, false}, // it does not rise
		{[]api.Branch{does(0), ends(1), ends(0)}, false},
		{[]api.Branch{does(0), ends(1), ends(0, 0)}, false},
		{[]api.Branch{does(0), ends(1), ends(0, 2, 2)}, false},
		{[]api.Branch{does(0), ends(1), ends(0, 0, 2)}, false},
		{[]api.Branch{does(0), ends(1), ends(0, 1, 2)}, false},
		{[]api.Branch{does(0), ends(1), does(0), ends(0), ends(2)}, false},
	} {
		if checkPlan(t, pairs, c.plan) != c.ok {
			t.Errorf("%v: is it a plan? not %t", c.plan, c.ok)
		}
	}
}

// TestFormEvery compares Cost and Ways for everything that can be written with a few branches.
func TestFormEvery(t *testing.T) {
	x := example{weights(2, 3, 5), []api.Test{show(1, 0), show(4, 1, 2), show(2, 2)}}
	letters := []api.Branch{does(0), does(1), does(2), does(3), {Test: -2}, ends(0), ends(1), ends(2), ends(1, 2), ends(0, 1), ends()}
	plans := 0
	var write func(branches []api.Branch)
	write = func(branches []api.Branch) {
		if checkPlan(t, x, branches) {
			plans++
		}
		if len(branches) == 5 {
			return
		}
		for _, b := range letters {
			write(append(branches[:len(branches):len(branches)], b))
		}
	}
	write(nil)
	if plans != len(x.trees(upTo(3))) || plans != 4 {
		t.Errorf("%d plans", plans)
	}
}

// spoilt returns what becomes of a plan if something in it is changed.
func spoilt(plan []api.Branch, r *rand.Rand) []api.Branch {
	at := r.Intn(len(plan))
	bad := slices.Clone(plan)
	switch r.Intn(7) {
	case 0:
		return slices.Delete(bad, at, at+1)
	case 1:
		return slices.Insert(bad, at, bad[at])
	case 2:
		return bad[:at]
	case 3:
		bad[at].Test = []int{-2, -1, 16, 0, 1, 2, 3, far()[r.Intn(9)]}[r.Intn(8)]
	case 4:
		bad[at].Faults = append(slices.Clone(bad[at].Faults), r.Intn(10))
	case 5:
		other := r.Intn(len(plan))
		bad[at], bad[other] = bad[other], bad[at]
	case 6:
		bad[at].Faults = slices.Clone(plan[r.Intn(len(plan))].Faults)
	}
	return bad
}

func TestFormSpoilt(t *testing.T) {
	r := rand.New(rand.NewSource(14))
	seen := map[bool]int{}
	for _, x := range examples() {
		for range 10 {
			plan := x.randomTree(r, upTo(len(x.faults))).preorder()
			seen[checkPlan(t, x, spoilt(plan, r))]++
		}
	}
	if seen[true] < 100 || seen[false] < 1000 {
		t.Errorf("too few of a kind: %v", seen)
	}
}

// TestP3More: a test that distinguishes nothing new never makes Best more expensive.
func TestP3More(t *testing.T) {
	r := rand.New(rand.NewSource(15))
	cheaper, same := 0, 0
	for _, x := range slices.Concat(examples(), smallExamples()) {
		if len(x.tests) == api.MaxTests {
			continue
		}
		_, before, _ := probe.Best(x.faults, x.tests)
		classes, _ := probe.Apart(x.faults, x.tests)
		more := api.Test{Cost: r.Intn(4)}
		for _, class := range classes {
			if r.Intn(2) == 0 {
				more.Shows = append(more.Shows, class...)
			}
		}
		slices.Sort(more.Shows)
		tests := slices.Insert(slices.Clone(x.tests), r.Intn(len(x.tests)+1), more)
		_, after, e := probe.Best(x.faults, tests)
		if after > before || e != api.OK {
			t.Errorf("Best of %v and %v costs %d, %d, without it %d", x, more, after, e, before)
		}
		if after < before {
			cheaper++
		} else {
			same++
		}
	}
	if cheaper < 100 || same < 100 {
		t.Errorf("%d plans became cheaper, %d did not", cheaper, same)
	}
}

// TestP6Multiplied: if all costs are multiplied, so is the cost of Best, and its plan stays the same.
func TestP6Multiplied(t *testing.T) {
	for _, x := range slices.Concat(examples(), smallExamples()) {
		plan, cost, _ := probe.Best(x.faults, x.tests)
		for _, times := range []int{0, 1, 2, 3, 7, 100, 1000} {
			tests := slices.Clone(x.tests)
			high := 0
			for i := range tests {
				tests[i].Cost *= times
				high = max(high, tests[i].Cost)
			}
			if high > most {
				continue
			}
			other, multiplied, e := probe.Best(x.faults, tests)
			if multiplied != times*cost || times > 0 && !samePlan(plan, other) || e != api.OK {
				t.Errorf("Best(%v) costs %d, %d times as much for a test: %v, %d, %d", x, cost, times, other, multiplied, e)
			}
		}
	}
}
