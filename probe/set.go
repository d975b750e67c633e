package probe

import "math/bits"

// set is a set of numbers from 0 to 63; bit i says whether i is in it.
type set uint64

// firsts returns the set of the first n numbers.
func firsts(n int) set {
	return one(n) - 1
}

// one returns the set of a single number.
func one(number int) set {
	return 1 << number
}

// setOf returns the set of some numbers.
func setOf(numbers []int) set {
	var s set
	for _, number := range numbers {
		s |= one(number)
	}
	return s
}

func (s set) has(number int) bool {
	return s&one(number) != 0
}

// least returns the least number of a set that is not empty.
func (s set) least() int {
	return bits.TrailingZeros64(uint64(s))
}

func (s set) size() int {
	return bits.OnesCount64(uint64(s))
}

// numbers returns the numbers of a set, rising.
func (s set) numbers() []int {
	var numbers []int
	for rest := s; rest != 0; rest &^= one(rest.least()) {
		numbers = append(numbers, rest.least())
	}
	return numbers
}
