package probe_test

import (
	"math/rand"
	"slices"
	"testing"

	"tourbillon/api"
	"tourbillon/probe"
)

func TestApartByHand(t *testing.T) {
	for _, c := range []struct {
		faults []api.Fault
		tests  []api.Test
		want   [][]int
	}{
		{weights(5), nil, [][]int{{0}}},
		{weights(5), []api.Test{show(1), show(1, 0)}, [][]int{{0}}},
		{weights(1, 3), []api.Test{show(2, 1)}, [][]int{{0}, {1}}},
		{weights(1, 3), nil, [][]int{{0, 1}}},
		{weights(1, 3), []api.Test{show(2), show(2, 0, 1)}, [][]int{{0, 1}}},
		{weights(1, 2, 3, 4), []api.Test{show(0, 1, 3)}, [][]int{{0, 2}, {1, 3}}},
		{weights(1, 2, 3, 4), []api.Test{show(0, 0, 2), show(0, 1, 3)}, [][]int{{0, 2}, {1, 3}}},
		{weights(1, 2, 3, 4), []api.Test{show(0, 3), show(0, 0, 3)}, [][]int{{0}, {1, 2}, {3}}},
		{equal(api.MaxFaults, 1), nil, [][]int{upTo(api.MaxFaults)}},
		{equal(5, most), singles(4, most), [][]int{{0}, {1}, {2}, {3}, {4}}},
		{equal(5, most), singles(3, most), [][]int{{0}, {1}, {2}, {3, 4}}},
		{equal(api.MaxFaults, 1), bits()[:2], [][]int{{0, 4, 8}, {1, 5, 9}, {2, 6}, {3, 7}}},
		{equal(api.MaxFaults, 1), slices.Repeat([]api.Test{show(1, 5)}, api.MaxTests), [][]int{{0, 1, 2, 3, 4, 6, 7, 8, 9}, {5}}},
	} {
		if got, e := probe.Apart(c.faults, c.tests); !sameLists(got, c.want) || e != api.OK {
			t.Errorf("Apart(%v, %v) = %v, %d, not %v", c.faults, c.tests, got, e, c.want)
		}
	}
}

func TestApart(t *testing.T) {
	for _, x := range slices.Concat(examples(), smallExamples()) {
		want := x.classes(upTo(len(x.tests)))
		if got, e := probe.Apart(x.faults, x.tests); !sameLists(got, want) || e != api.OK {
			t.Errorf("Apart(%v) = %v, %d, not %v", x, got, e, want)
		}
	}
}

func TestNeededByHand(t *testing.T) {
	for _, c := range []struct {
		faults []api.Fault
		tests  []api.Test
		want   []int
	}{
		{weights(5), nil, nil},
		{weights(1, 3), nil, nil},
		{weights(5), []api.Test{show(0), show(0, 0)}, nil},
		{weights(1, 3), []api.Test{show(0), show(0, 0, 1)}, nil}, // nothing is distinguished
		{weights(1, 3), []api.Test{show(2, 1)}, []int{0}},
		{weights(1, 3), []api.Test{show(0), show(most, 1)}, []int{1}},
		{weights(1, 3), []api.Test{show(3, 0), show(2, 1), show(2, 0)}, []int{1}},
		{weights(1, 3), []api.Test{show(0, 0), show(0, 1)}, []int{0}}, // no test more than needed, even if it costs nothing
		{equal(3, 1), singles(3, 4), []int{0, 1}},
		{equal(3, 1), []api.Test{show(4, 0), show(3, 1), show(3, 2)}, []int{1, 2}},
		{equal(3, 1), []api.Test{show(4, 0), show(3, 1), show(4, 2)}, []int{0, 1}},                                                                   // as {1 2}
		{equal(3, 1), []api.Test{show(3, 0), show(4, 1), show(4, 2)}, []int{0, 1}},                                                                   // as {0 2}
		{equal(4, 1), []api.Test{show(2, 0, 1), show(1, 0), show(1, 1), show(1, 2), show(1, 0, 2)}, []int{0, 4}},                                     // three tests cost 3, too
		{equal(4, 1), []api.Test{show(3, 0, 1), show(1, 0), show(1, 1), show(1, 2), show(1, 0, 1, 2)}, []int{1, 2, 3}},                               // cheaper, though more
		{equal(4, 1), []api.Test{show(9, 0, 1), show(1, 0), show(1, 1), show(0, 0, 2), show(1, 0, 1)}, []int{3, 4}},                                  // the cheaper one of two that are alike
		{equal(5, 1), []api.Test{show(1, 0, 1, 2, 3), show(1, 0, 4), show(3, 0, 2), show(1, 0, 1, 2, 4), show(1, 1, 2)}, []int{0, 2, 4}},             // as {1 2 3}
		{equal(5, 1), []api.Test{show(3, 0, 2, 3, 4), show(3, 1, 4), show(3, 0, 3, 4), show(2, 1, 3, 4), show(3, 2, 3)}, []int{0, 3, 4}},             // as {1 2 3}
		{equal(7, 1), []api.Test{show(1, 0, 4, 5), show(1, 0, 3, 5, 6), show(1, 1, 2, 5, 6), show(3, 0, 1, 4, 5), show(3, 1, 5, 6)}, []int{0, 1, 4}}, // as {1 2 3}
		{weights(1, 2, 3, 4), []api.Test{show(9, 1, 3), show(8, 0, 2)}, []int{1}},
		{equal(api.MaxFaults, 1), bits(), []int{0, 1, 2, 3}},
		{equal(api.MaxFaults, most), singles(api.MaxFaults, most), upTo(9)},
		{equal(api.MaxFaults, most), slices.Repeat([]api.Test{show(most, 0, 1)}, api.MaxTests), []int{0}},
	} {
		x := example{c.faults, c.tests}
		if got, e := probe.Needed(c.faults, c.tests); !slices.Equal(got, c.want) || e != api.OK {
			t.Errorf("Needed(%v) = %v, %d, not %v", x, got, e, c.want)
		}
	}
}

// TestNeeded compares Needed with a search through all lists of tests; of cases with so many tests that this takes long, only a few.
func TestNeeded(t *testing.T) {
	great := 0
	for _, x := range slices.Concat(examples(), smallExamples()) {
		if len(x.tests) > 10 {
			great++
		}
		if len(x.tests) > 10 && great > 6 {
			continue
		}
		want := x.needed()
		if got, e := probe.Needed(x.faults, x.tests); !slices.Equal(got, want) || e != api.OK {
			t.Errorf("Needed(%v) = %v, %d, not %v", x, got, e, want)
		}
	}
}

// TestNeededTies searches cases in which many sets of tests cost the same.
func TestNeededTies(t *testing.T) {
	r := rand.New(rand.NewSource(16))
	for k := range 4000 {
		x := example{equal(4+k%4, 1), nil}
		for range 4 + k%3 {
			test := show(1 + r.Intn(1+k%5))
			for fault := range x.faults {
				if r.Intn(2) == 0 {
					test.Shows = append(test.Shows, fault)
				}
			}
			x.tests = append(x.tests, test)
		}
		want := x.needed()
		if got, e := probe.Needed(x.faults, x.tests); !slices.Equal(got, want) || e != api.OK {
			t.Errorf("Needed(%v) = %v, %d, not %v", x, got, e, want)
		}
	}
}
