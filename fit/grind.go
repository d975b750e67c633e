package fit

import (
	"math"
	"slices"

	"tourbillon/api"
)

// never is the cost of a hole that is too wide for a shaft. It is above every total of grinding: no shaft is ground by more than 3·MaxSize.
const never = 4 * api.MaxSize * api.MaxPieces

// Grind gives every shaft a hole with the least grinding.
func Grind(shafts, holes []int, clearance api.Span) ([]int, int, api.Errno) {
	if !validPieces(shafts, holes, clearance) {
		return nil, 0, api.ErrArg
	}
	if len(shafts) > len(holes) {
		return nil, 0, api.ErrNone
	}
	cost := costs(shafts, holes, clearance)
	m := pairMost(priced(cost).tight())
	m.settle()
	given, total := m.holeOf[:len(shafts)], 0
	for shaft, hole := range given {
		total += cost[shaft][hole]
	}
	if total >= never {
		return nil, 0, api.ErrNone
	}
	return given, total, api.OK
}

// costs returns the cost of each hole for each shaft. Shafts that fit anything for nothing are added, so that there are as many shafts as holes.
func costs(shafts, holes []int, clearance api.Span) [][]int {
	var cost [][]int
	for i := range holes {
		row := make([]int, len(holes))
		if i < len(shafts) {
			for j, hole := range holes {
				row[j] = grinding(hole-shafts[i], clearance)
			}
		}
		cost = append(cost, row)
	}
	return cost
}

// grinding returns by how much a shaft must be made thinner whose hole is wider than it by so much.
func grinding(gap int, clearance api.Span) int {
	if gap > clearance.High {
		return never
	}
	return max(0, clearance.Low-gap)
}

// prices has a price for each shaft and each hole. No cost is below the prices of its shaft and its hole together, so no assignment costs less than all prices together; and one costs just that.
type prices struct {
	cost    [][]int
	ofShaft []int
	ofHole  []int // the last one is of no hole: each search begins there
	shaftOf []int // the shaft of each hole in an assignment that costs as much as its prices, or none; likewise
}

// priced finds prices by the Hungarian method, a shaft at a time.
func priced(cost [][]int) *prices {
	p := &prices{
		cost:    cost,
		ofShaft: make([]int, len(cost)),
		ofHole:  make([]int, len(cost)+1),
		shaftOf: slices.Repeat([]int{none}, len(cost)+1),
	}
	for shaft := range cost {
		p.enter(shaft)
	}
	return p
}

// tight returns the pairs whose cost is their price. The assignments of the least cost are those that consist of such pairs.
func (p *prices) tight() [][]bool {
	var tight [][]bool
	for shaft, row := range p.cost {
		fits := make([]bool, len(row))
		for hole := range row {
			fits[hole] = p.over(shaft, hole) == 0
		}
		tight = append(tight, fits)
	}
	return tight
}

// over returns by how much a cost is above its prices.
func (p *prices) over(shaft, hole int) int {
	return p.cost[shaft][hole] - p.ofShaft[shaft] - p.ofHole[hole]
}

// enter assigns a hole to a further shaft: it reaches hole after hole, the one that is least over its price first, until one is free.
func (p *prices) enter(shaft int) {
	start := len(p.cost)
	s := search{
		reached: make([]bool, start+1),
		before:  make([]int, start),
		over:    slices.Repeat([]int{math.MaxInt}, start),
	}
	p.shaftOf[start] = shaft
	hole := start
	for p.shaftOf[hole] != none {
		hole = p.reach(hole, s)
	}
	for hole != start {
		before := s.before[hole]
		p.shaftOf[hole] = p.shaftOf[before]
		hole = before
	}
}

// search is how far a search for a free hole has come.
type search struct {
	reached []bool
	before  []int // the reached hole from whose shaft a hole is reached for the least
	over    []int // how much that is over its price
}

// reach adds a hole to those reached, and returns the next one, whose pair it makes tight.
func (p *prices) reach(hole int, s search) int {
	s.reached[hole] = true
	next := none
	for other := range s.over {
		if s.reached[other] {
			continue
		}
		if over := p.over(p.shaftOf[hole], other); over < s.over[other] {
			s.over[other], s.before[other] = over, hole
		}
		if next == none || s.over[other] < s.over[next] {
			next = other
		}
	}
	p.raise(s, s.over[next])
	return next
}

// raise raises the prices of the shafts that a search has reached and lowers those of their holes, which leaves their pairs tight.
func (p *prices) raise(s search, by int) {
	for hole, reached := range s.reached {
		switch {
		case reached:
			p.ofShaft[p.shaftOf[hole]] += by
			p.ofHole[hole] -= by
		case hole < len(s.over):
			s.over[hole] -= by
		}
	}
}
