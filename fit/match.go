package fit

import "slices"

// matching is shafts and holes that are paired with one another.
type matching struct {
	fits    [][]bool // for each shaft, which holes it fits
	holeOf  []int    // the hole of each shaft, or none
	shaftOf []int    // the shaft of each hole, or none
	settled int      // how many shafts, from the first one on, are moved no more
	tried   []bool   // the holes that the present search has tried
}

// pairMost pairs the greatest number of shafts: no more can be paired when no single one can be added.
func pairMost(fits [][]bool) *matching {
	holes := 0
	if len(fits) > 0 {
		holes = len(fits[0])
	}
	m := &matching{
		fits:    fits,
		holeOf:  slices.Repeat([]int{none}, len(fits)),
		shaftOf: slices.Repeat([]int{none}, holes),
		tried:   make([]bool, holes),
	}
	for m.grow() {
	}
	return m
}

// paired returns how many shafts have a hole.
func (m *matching) paired() int {
	n := 0
	for _, hole := range m.holeOf {
		if hole != none {
			n++
		}
	}
	return n
}

// settle makes the pairing the lexicographically least one of as many shafts: each shaft in turn gets the first hole that it can have.
func (m *matching) settle() {
	for shaft, fits := range m.fits {
		m.settled = shaft + 1
		for hole, fit := range fits {
			if fit && m.claim(shaft, hole) {
				break
			}
		}
	}
}

// claim gives a shaft a hole, unless a settled shaft has it or fewer shafts would be paired then.
func (m *matching) claim(shaft, hole int) bool {
	old, owner := m.holeOf[shaft], m.shaftOf[hole]
	if owner == shaft {
		return true
	}
	if owner != none && owner < shaft {
		return false
	}
	if old != none {
		m.shaftOf[old] = none
	}
	if owner != none {
		m.holeOf[owner] = none
	}
	m.give(shaft, hole)
	if old == none || owner == none || m.grow() {
		return true
	}
	m.give(shaft, old)
	m.give(owner, hole)
	return false
}

// stuck returns the shafts that are left over in a pairing of the greatest number, and those whose holes they reach by moving others. All holes that these shafts fit are theirs, so they are more than these holes by the number that are left over.
func (m *matching) stuck() []int {
	m.grow() // in vain, and so it tries all holes that are reached
	var shafts []int
	for shaft, hole := range m.holeOf {
		if hole == none || m.tried[hole] {
			shafts = append(shafts, shaft)
		}
	}
	return shafts
}

// grow pairs one shaft more, if one that is not settled can be paired.
func (m *matching) grow() bool {
	clear(m.tried)
	return slices.ContainsFunc(m.waiting(), m.seat)
}

// waiting returns the shafts without a hole that are not settled.
func (m *matching) waiting() []int {
	var shafts []int
	for shaft := m.settled; shaft < len(m.holeOf); shaft++ {
		if m.holeOf[shaft] == none {
			shafts = append(shafts, shaft)
		}
	}
	return shafts
}

// seat searches for a hole for a shaft: one that is free, or one whose shaft finds another hole. A hole that was tried in vain is in vain for every other shaft too.
func (m *matching) seat(shaft int) bool {
	for hole, fit := range m.fits[shaft] {
		if !fit || m.tried[hole] {
			continue
		}
		m.tried[hole] = true
		owner := m.shaftOf[hole]
		if owner == none || owner >= m.settled && m.seat(owner) {
			m.give(shaft, hole)
			return true
		}
	}
	return false
}

func (m *matching) give(shaft, hole int) {
	m.holeOf[shaft] = hole
	m.shaftOf[hole] = shaft
}
