package probe_test

import (
	"math/rand"
	"slices"
	"testing"

	"tourbillon/api"
	"tourbillon/probe"
)

const (
	heaviest = 1000000
	longest  = 64
)

func TestCodesByHand(t *testing.T) {
	for _, c := range []struct {
		weights, lengths []int
		sum              int
	}{
		{[]int{1}, []int{0}, 0},
		{[]int{heaviest}, []int{0}, 0},
		{[]int{1, 1}, []int{1, 1}, 2},
		{[]int{heaviest, 1}, []int{1, 1}, heaviest + 1},
		{[]int{1, 1, 2}, []int{2, 2, 1}, 6},
		{[]int{2, 1, 1}, []int{1, 2, 2}, 6},
		{[]int{1, 1, 1}, []int{2, 2, 1}, 5},
		{[]int{1, 1, 1, 1}, []int{2, 2, 2, 2}, 8},
		{[]int{1, 1, 2, 2}, []int{3, 3, 2, 1}, 12}, // 0 and 1 are joined before 2 is, as 0 is less than 2
		{[]int{2, 2, 1, 1}, []int{2, 2, 2, 2}, 12}, // 2 and 3 are joined after 0 and 1 are
		{[]int{2, 1, 1, 2}, []int{2, 3, 3, 1}, 12},
		{[]int{1, 2, 3, 3}, []int{3, 3, 2, 1}, 18}, // 0 and 1 together are joined before 2 is
		{[]int{1, 1, 1, 1, 1}, []int{3, 3, 2, 2, 2}, 12},
		{[]int{5, 1, 1, 1, 2}, []int{1, 4, 4, 3, 2}, 20},
		{[]int{1, 2, 4, 8, 16}, []int{4, 4, 3, 2, 1}, 56},
		{[]int{16, 8, 4, 2, 1}, []int{1, 2, 3, 4, 4}, 56},
		{slices.Repeat([]int{1}, longest), slices.Repeat([]int{6}, longest), 6 * longest},
		{slices.Repeat([]int{heaviest}, longest), slices.Repeat([]int{6}, longest), 6 * longest * heaviest},
	} {
		if lengths, sum, e := probe.Codes(c.weights); !slices.Equal(lengths, c.lengths) || sum != c.sum || e != api.OK {
			t.Errorf("Codes(%v) = %v, %d, %d, not %v, %d", c.weights, lengths, sum, e, c.lengths, c.sum)
		}
	}
}

// checkCodes is P5: the lengths are a code, those of the nodes as lists, and no code has a lesser sum.
func checkCodes(t *testing.T, numbers []int) {
	t.Helper()
	lengths, sum, e := probe.Codes(numbers)
	if want := huffman(numbers); !slices.Equal(lengths, want) || e != api.OK {
		t.Errorf("Codes(%v) = %v, %d, %d, not %v", numbers, lengths, sum, e, want)
	}
	if sum != sumOf(numbers, lengths) || sum != leastSum(numbers) || !isCode(lengths) {
		t.Errorf("Codes(%v) = %v, %d; the lengths' sum is %d, the least one is %d", numbers, lengths, sum, sumOf(numbers, lengths), leastSum(numbers))
	}
}

func TestCodes(t *testing.T) {
	r := rand.New(rand.NewSource(17))
	for k := range 1500 {
		n := 1 + r.Intn(longest)
		if k%10 == 0 {
			n = longest
		}
		high := []int{1, 2, 3, 10, 100, heaviest}[r.Intn(6)]
		var numbers []int
		for range n {
			numbers = append(numbers, 1+r.Intn(high))
		}
		checkCodes(t, numbers)
	}
	doubled := []int{1}
	for len(doubled) < longest {
		doubled = append(doubled, min(heaviest, 2*doubled[len(doubled)-1]))
	}
	fibonacci := []int{1, 1}
	for len(fibonacci) < 30 {
		n := len(fibonacci)
		fibonacci = append(fibonacci, fibonacci[n-1]+fibonacci[n-2])
	}
	for _, numbers := range [][]int{doubled, fibonacci, upTo(longest + 1)[1:]} {
		checkCodes(t, numbers)
		slices.Reverse(numbers)
		checkCodes(t, numbers)
	}
}

// TestCodesEvery compares the sums of a few weights with those of all codes.
func TestCodesEvery(t *testing.T) {
	var codes [7][][]int // for each number of weights, all codes with lengths that a tree may have
	var extend func(lengths []int)
	extend = func(lengths []int) {
		if len(lengths) > 0 && isCode(lengths) {
			codes[len(lengths)] = append(codes[len(lengths)], slices.Clone(lengths))
		}
		if len(lengths) == 6 {
			return
		}
		for l := range 6 {
			extend(append(lengths[:len(lengths):len(lengths)], l))
		}
	}
	extend(nil)
	r := rand.New(rand.NewSource(18))
	for k := range 60 {
		var numbers []int
		for range 1 + k%6 {
			numbers = append(numbers, 1+r.Intn(9))
		}
		_, sum, e := probe.Codes(numbers)
		least := sum
		for _, lengths := range codes[len(numbers)] {
			least = min(least, sumOf(numbers, lengths))
		}
		if sum > least || e != api.OK {
			t.Errorf("Codes(%v): %d, %d; the least sum is %d", numbers, sum, e, least)
		}
		checkCodes(t, numbers)
	}
}

func TestCodesInvalid(t *testing.T) {
	bad := [][]int{nil, {}, {0}, {-1}, {heaviest + 1}, {1, 0}, {0, 1}, {1, heaviest + 1, 1}, {3, -3}, slices.Repeat([]int{1}, longest+1), slices.Repeat([]int{heaviest}, 1000), append(slices.Repeat([]int{1}, longest-1), 0)}
	for _, n := range far() {
		if n < 0 || n > heaviest {
			bad = append(bad, []int{n}, []int{1, n}, []int{n, n}, []int{n, 1, n})
		}
	}
	for _, numbers := range bad {
		lengths, sum, e := probe.Codes(numbers)
		fails(t, e, api.ErrArg, len(lengths) == 0 && sum == 0, "Codes", numbers)
	}
}

func TestFloorByHand(t *testing.T) {
	for _, c := range []struct {
		faults []api.Fault
		tests  []api.Test
		want   int
	}{
		{weights(1, 3), []api.Test{show(2, 1)}, 8},
		{weights(1, 3), nil, 0},
		{weights(5), nil, 0},
		{weights(5), []api.Test{show(4, 0), show(3)}, 0},
		{weights(1, 3), []api.Test{show(2), show(3, 0, 1)}, 0},                 // none splits all faults
		{weights(1, 3), []api.Test{show(2), show(3, 0, 1), show(5, 0)}, 20},    // only the one that splits counts
		{weights(1, 3), []api.Test{show(6, 1), show(5, 0), show(most, 0)}, 20}, // the cheapest one
		{weights(1, 3), []api.Test{show(6, 1), show(0, 0)}, 0},                 // which may cost nothing
		{weights(1, 1, 2), singles(2, 1), 6},
		{weights(1, 1, 2), singles(1, 1), 4},                          // classes of 1 and 3
		{weights(5, 1, 1, 4), []api.Test{show(2, 0), show(3, 3)}, 34}, // classes of 5, 2 and 4: 2 times 5 + 4 + 4 + 4
		{equal(api.MaxFaults, 1), bits(), 34},
		{equal(api.MaxFaults, most), singles(9, most), 34 * most * most},
		{equal(api.MaxFaults, most), singles(1, most), 10 * most * most},
	} {
		if got, e := probe.Floor(c.faults, c.tests); got != c.want || e != api.OK {
			t.Errorf("Floor(%v, %v) = %d, %d, not %d", c.faults, c.tests, got, e, c.want)
		}
	}
}

// floor returns what the document says of Floor.
func (x example) floor() int {
	dividers := x.dividers(upTo(len(x.faults)))
	if len(dividers) == 0 {
		return 0
	}
	least := most
	for _, test := range dividers {
		least = min(least, x.tests[test].Cost)
	}
	var numbers []int
	for _, class := range x.classes(upTo(len(x.tests))) {
		sum := 0
		for _, fault := range class {
			sum += x.faults[fault].Weight
		}
		numbers = append(numbers, sum)
	}
	return leastSum(numbers) * least
}

// TestFloor is P4: Floor is at most the cost of Best; it is the number of the document.
func TestFloor(t *testing.T) {
	reached, below := 0, 0
	for _, x := range slices.Concat(examples(), smallExamples()) {
		got, e := probe.Floor(x.faults, x.tests)
		if got != x.floor() || e != api.OK {
			t.Errorf("Floor(%v) = %d, %d, not %d", x, got, e, x.floor())
		}
		_, cost, _ := probe.Best(x.faults, x.tests)
		switch {
		case got > cost:
			t.Errorf("Floor(%v) = %d, but a plan costs %d", x, got, cost)
		case got < cost:
			below++
		case got > 0:
			reached++
		}
	}
	if reached < 100 || below < 100 {
		t.Errorf("Floor is reached %d times, below the cost %d times", reached, below)
	}
}
