package probe

import "tourbillon/api"

// kit is some of the tests, the pairs of faults that they distinguish, and their total cost.
type kit struct {
	tests, pairs set
	cost         int
}

// Apart returns the classes of faults that no test distinguishes.
func Apart(faults []api.Fault, tests []api.Test) ([][]int, api.Errno) {
	d, e := diagnose(faults, tests)
	if e != api.OK {
		return nil, e
	}
	var apart [][]int
	for _, class := range d.classes() {
		apart = append(apart, class.numbers())
	}
	return apart, api.OK
}

// Needed returns the cheapest tests that distinguish all classes.
func Needed(faults []api.Fault, tests []api.Test) ([]int, api.Errno) {
	d, e := diagnose(faults, tests)
	if e != api.OK {
		return nil, e
	}
	pairs, every := d.pairs(), firsts(len(tests))
	all := d.kit(every, pairs)
	best := all
	for some := range every { // all parts of every but itself
		k := d.kit(some, pairs)
		if k.pairs == all.pairs && k.better(best) {
			best = k
		}
	}
	return best.tests.numbers(), api.OK
}

// classes returns the sets of faults that no test distinguishes, by their first fault.
func (d diagnosis) classes() []set {
	var classes []set
	for rest := d.all(); rest != 0; {
		class := d.alike(rest.least())
		classes = append(classes, class)
		rest &^= class
	}
	return classes
}

// alike returns the faults that no test distinguishes from a fault.
func (d diagnosis) alike(fault int) set {
	same := d.all()
	for test, shows := range d.shows {
		shown, others := d.parts(same, test)
		if shows.has(fault) {
			same = shown
		} else {
			same = others
		}
	}
	return same
}

// pairs returns for each test which pairs of faults it distinguishes; the pairs are numbered, at most 45 of them.
func (d diagnosis) pairs() []set {
	pairs := make([]set, len(d.tests))
	for test, shows := range d.shows {
		number := 0
		for b := range d.faults {
			for a := range b {
				if shows.has(a) != shows.has(b) {
					pairs[test] |= one(number)
				}
				number++
			}
		}
	}
	return pairs
}

// kit returns the kit of some tests, of which pairs says what each one distinguishes.
func (d diagnosis) kit(tests set, pairs []set) kit {
	k := kit{tests: tests}
	for rest := tests; rest != 0; {
		test := rest.least()
		k.pairs |= pairs[test]
		k.cost += d.tests[test].Cost
		rest &^= one(test)
	}
	return k
}

// better reports whether a kit is better than another one, of other tests, that distinguishes as much.
func (k kit) better(other kit) bool {
	if k.cost != other.cost {
		return k.cost < other.cost
	}
	if k.tests.size() != other.tests.size() {
		return k.tests.size() < other.tests.size()
	}
	// of two sets of one size the lexicographically less one has the least number that is not in both
	return k.tests.has((k.tests ^ other.tests).least())
}
