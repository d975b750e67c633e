package probe

import (
	"slices"

	"tourbillon/api"
)

// end stands for a test where a plan ends.
const end = -1

// step is the first test of a cheapest plan for a set of faults, or end, and the cost of that plan.
type step struct {
	test, cost int
}

// steps is the first step for every set of faults.
type steps [1 << api.MaxFaults]step

// Best returns the cheapest plan and its cost.
func Best(faults []api.Fault, tests []api.Test) ([]api.Branch, int, api.Errno) {
	d, e := diagnose(faults, tests)
	if e != api.OK {
		return nil, 0, e
	}
	var known steps
	for s := range d.all() + 1 { // the parts of a set are less than it, and so they are known before it
		known[s] = d.cheapest(s, &known)
	}
	return d.plan(d.all(), &known), known[d.all()].cost, api.OK
}

// cheapest returns the first step for a set of whose parts the steps are known.
func (d diagnosis) cheapest(s set, known *steps) step {
	best, weight := step{test: end}, d.weight(s)
	for _, test := range d.splitters(s) {
		shown, others := d.parts(s, test)
		cost := weight*d.tests[test].Cost + known[shown].cost + known[others].cost
		if best.test == end || cost < best.cost {
			best = step{test, cost}
		}
	}
	return best
}

// plan returns the plan for a set that the known steps make.
func (d diagnosis) plan(s set, known *steps) []api.Branch {
	test := known[s].test
	if test == end {
		return []api.Branch{{Test: end, Faults: s.numbers()}}
	}
	shown, others := d.parts(s, test)
	plan := []api.Branch{{Test: test}}
	plan = append(plan, d.plan(shown, known)...)
	return append(plan, d.plan(others, known)...)
}

// Cost returns a plan's cost.
func Cost(faults []api.Fault, tests []api.Test, plan []api.Branch) (int, api.Errno) {
	d, e := diagnose(faults, tests)
	if e != api.OK {
		return 0, e
	}
	sets, ok := d.follow(plan)
	if !ok {
		return 0, api.ErrForm
	}
	cost := 0
	for i, b := range plan {
		if b.Test != end {
			cost += d.weight(sets[i]) * tests[b.Test].Cost
		}
	}
	return cost, api.OK
}

// Ways returns the tests that are done for a fault, and where they end.
func Ways(faults []api.Fault, tests []api.Test, plan []api.Branch, fault int) ([]int, []int, api.Errno) {
	d, e := diagnose(faults, tests)
	if e != api.OK {
		return nil, nil, e
	}
	if fault < 0 || fault >= len(faults) {
		return nil, nil, api.ErrArg
	}
	sets, ok := d.follow(plan)
	if !ok {
		return nil, nil, api.ErrForm
	}
	var done, left []int
	for i, b := range plan {
		if !sets[i].has(fault) {
			continue
		}
		if b.Test == end {
			left = sets[i].numbers()
		} else {
			done = append(done, b.Test)
		}
	}
	return done, left, api.OK
}

// follow returns for each branch of a plan the faults with which it is reached, and whether it is a plan for all faults.
func (d diagnosis) follow(plan []api.Branch) ([]set, bool) {
	var sets []set
	due := []set{d.all()} // the sets for which a plan has to follow, the next one last
	for _, b := range plan {
		if len(due) == 0 {
			return nil, false
		}
		s := due[len(due)-1]
		due = due[:len(due)-1]
		if !d.fits(b, s) {
			return nil, false
		}
		if b.Test != end {
			shown, others := d.parts(s, b.Test)
			due = append(due, others, shown)
		}
		sets = append(sets, s)
	}
	return sets, len(due) == 0
}

// fits reports whether a plan for a set may begin with a branch.
func (d diagnosis) fits(b api.Branch, s set) bool {
	if b.Test == end {
		return slices.Equal(b.Faults, s.numbers()) && len(d.splitters(s)) == 0
	}
	return 0 <= b.Test && b.Test < len(d.tests) && len(b.Faults) == 0 && d.splits(b.Test, s)
}
