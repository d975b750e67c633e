package probe_test

import (
	"fmt"
	"slices"
	"testing"

	"tourbillon/api"
	"tourbillon/probe"
)

func TestCheck(t *testing.T) {
	for _, x := range slices.Concat(examples(), smallExamples()) {
		if e := probe.Check(x.faults, x.tests); e != api.OK {
			t.Errorf("Check(%v) = %d", x, e)
		}
	}
	for _, x := range badExamples() {
		if e := probe.Check(x.faults, x.tests); e != api.ErrArg {
			t.Errorf("Check(%v) = %d", x, e)
		}
	}
}

// TestInvalid is R2 and R3: every function of a case returns ErrArg alone, whatever the plan and the fault are.
func TestInvalid(t *testing.T) {
	for _, x := range badExamples() {
		plan, cost, e := probe.Best(x.faults, x.tests)
		fails(t, e, api.ErrArg, len(plan) == 0 && cost == 0, "Best", x)
		apart, e := probe.Apart(x.faults, x.tests)
		fails(t, e, api.ErrArg, len(apart) == 0, "Apart", x)
		needed, e := probe.Needed(x.faults, x.tests)
		fails(t, e, api.ErrArg, len(needed) == 0, "Needed", x)
		floor, e := probe.Floor(x.faults, x.tests)
		fails(t, e, api.ErrArg, floor == 0, "Floor", x)
		for _, plan := range [][]api.Branch{nil, {ends(0)}, {ends(0, 1)}, {does(0), ends(1), ends(0)}, {does(99)}} {
			cost, e := probe.Cost(x.faults, x.tests, plan)
			fails(t, e, api.ErrArg, cost == 0, "Cost", x, plan)
			for _, fault := range []int{0, 1, -1, 99} {
				done, left, e := probe.Ways(x.faults, x.tests, plan, fault)
				fails(t, e, api.ErrArg, len(done) == 0 && len(left) == 0, "Ways", x, plan, fault)
			}
		}
	}
}

// TestNoFault: a number that no fault has is ErrArg, also if the plan is none.
func TestNoFault(t *testing.T) {
	for _, x := range examples() {
		plan, _, _ := probe.Best(x.faults, x.tests)
		for _, branches := range [][]api.Branch{plan, nil, plan[1:], {does(-5)}} {
			for _, fault := range append(far(), -1, len(x.faults), len(x.faults)+1) {
				done, left, e := probe.Ways(x.faults, x.tests, branches, fault)
				fails(t, e, api.ErrArg, len(done) == 0 && len(left) == 0, "Ways", x, branches, fault)
			}
		}
	}
}

// roomy returns a copy of a list with room behind it, and all of that room.
func roomy[T any](list []T, filler T) ([]T, []T) {
	room := slices.Concat(list, []T{filler, filler, filler})
	return room[:len(list)], room
}

// TestKept is R5: arguments, and the room behind them, are left as they are.
func TestKept(t *testing.T) {
	for _, x := range examples()[:60] {
		faults, faultRoom := roomy(x.faults, api.Fault{Weight: 77})
		tests, testRoom := roomy(x.tests, show(77, 0))
		var showRooms [][]int
		for i := range tests {
			var room []int
			tests[i].Shows, room = roomy(tests[i].Shows, 77)
			showRooms = append(showRooms, room)
		}
		best, _, _ := probe.Best(faults, tests)
		plan, planRoom := roomy(best, ends(77))
		for i := range plan {
			plan[i].Faults, _ = roomy(plan[i].Faults, 77)
			showRooms = append(showRooms, plan[i].Faults[:len(plan[i].Faults)+3])
		}
		numbers, numberRoom := roomy([]int{5, 3, 4, 1, 1, 2}, 77)
		before := fmt.Sprint(faultRoom, testRoom, showRooms, planRoom, numberRoom)
		useAll(faults, tests, plan)
		probe.Codes(numbers)
		if after := fmt.Sprint(faultRoom, testRoom, showRooms, planRoom, numberRoom); after != before {
			t.Errorf("the arguments were %s, are %s", before, after)
		}
	}
}

// useAll calls every function for a case and a plan of it, and writes the results.
func useAll(faults []api.Fault, tests []api.Test, plan []api.Branch) string {
	out := fmt.Sprintln(probe.Check(faults, tests))
	out += fmt.Sprintln(probe.Best(faults, tests))
	out += fmt.Sprintln(probe.Cost(faults, tests, plan))
	for fault := range faults {
		out += fmt.Sprintln(probe.Ways(faults, tests, plan, fault))
	}
	out += fmt.Sprintln(probe.Apart(faults, tests))
	out += fmt.Sprintln(probe.Needed(faults, tests))
	return out + fmt.Sprintln(probe.Floor(faults, tests))
}

// spoil overwrites a list and all room behind it.
func spoil(list []int) {
	for i := range list[:cap(list)] {
		list[:cap(list)][i] = -9
	}
}

// TestNew is R5 and R6: results share no memory with arguments or with one another, and a call gives the same again.
func TestNew(t *testing.T) {
	for _, x := range examples()[:60] {
		plan, _, _ := probe.Best(x.faults, x.tests)
		kept := x.whole(plan).preorder()
		first := useAll(x.faults, x.tests, kept)
		for i := range plan {
			spoil(plan[i].Faults)
			for j := i + 1; j < len(plan); j++ {
				if !slices.Equal(plan[j].Faults, kept[j].Faults) {
					t.Fatalf("the ends %d and %d of a plan share memory", i, j)
				}
			}
		}
		clear(plan[:cap(plan)])
		apart, _ := probe.Apart(x.faults, x.tests)
		classes := x.classes(upTo(len(x.tests)))
		for i := range apart {
			spoil(apart[i])
			if !sameLists(apart[i+1:], classes[i+1:]) {
				t.Fatalf("class %d shares memory with a later one", i)
			}
		}
		needed, _ := probe.Needed(x.faults, x.tests)
		spoil(needed)
		for fault := range x.faults {
			done, left, _ := probe.Ways(x.faults, x.tests, kept, fault)
			end := slices.Clone(left)
			spoil(done)
			if !slices.Equal(left, end) {
				t.Fatalf("both results of Ways share memory")
			}
			spoil(left)
		}
		if again := useAll(x.faults, x.tests, kept); again != first {
			t.Fatalf("first %s, then %s", first, again)
		}
	}
	lengths, _, _ := probe.Codes([]int{1, 1, 2})
	spoil(lengths)
	if lengths, sum, e := probe.Codes([]int{1, 1, 2}); !slices.Equal(lengths, []int{2, 2, 1}) || sum != 6 || e != api.OK {
		t.Errorf("Codes = %v, %d, %d", lengths, sum, e)
	}
}

// TestEmpty is R4: nil and empty slices are the same.
func TestEmpty(t *testing.T) {
	faults := weights(1, 3)
	plan := []api.Branch{ends(0, 1)}
	if a, b := useAll(faults, nil, plan), useAll(faults, []api.Test{}, plan); a != b {
		t.Errorf("%s is not %s", a, b)
	}
	if a, b := useAll(faults, []api.Test{{Cost: 3}}, plan), useAll(faults, []api.Test{{Cost: 3, Shows: []int{}}}, plan); a != b {
		t.Errorf("%s is not %s", a, b)
	}
	split := []api.Test{show(2, 1)}
	a := useAll(faults, split, []api.Branch{{Test: 0}, ends(1), ends(0)})
	b := useAll(faults, split, []api.Branch{{Test: 0, Faults: []int{}}, ends(1), ends(0)})
	if a != b {
		t.Errorf("%s is not %s", a, b)
	}
}
