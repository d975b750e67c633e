package rate

import (
	"tourbillon/api"
	"tourbillon/gear"
)

// strip is the two parallel lines of the slope rise/run with all readings from the one to the other: Offset·run - rise·Time is from low to high at each of them. All of these are up to 4·10^12, so that Make does not fail for them.
type strip struct {
	rise, run, low, high int
}

// Least returns the line of the least greatest error, and that error.
func Least(r []api.Reading) (api.Line, api.Frac, api.Errno) {
	if !valid(r) {
		return api.Line{}, api.Frac{}, api.ErrArg
	}
	s := narrowest(r)
	steep, _ := gear.Make(s.rise, s.run)
	shift, _ := gear.Make(s.low+s.high, 2*s.run)
	return api.Line{Slope: steep, Shift: shift}, s.size(), api.OK
}

// Witnesses returns three readings that prove the least error.
func Witnesses(r []api.Reading) ([]int, api.Errno) {
	if !valid(r) {
		return nil, api.ErrArg
	}
	s := narrowest(r)
	if s.low == s.high {
		return nil, api.OK
	}
	// The errors alternate at three readings at least, so there are such readings from the first greatest error on: the earliest next ones are the least.
	var found []int
	last := 0
	for k, x := range r {
		height := s.height(x)
		if (height == s.low || height == s.high) && (len(found) == 0 || height != last) {
			found = append(found, k)
			last = height
		}
		if len(found) == 3 {
			break
		}
	}
	return found, api.OK
}

// Hull returns the corners of the hull from below and from above.
func Hull(r []api.Reading) ([]int, []int, api.Errno) {
	if !valid(r) {
		return nil, nil, api.ErrArg
	}
	return corners(r, 1), corners(r, -1), api.OK
}

// narrowest returns the strip whose lines are least far apart. One of its lines goes along a side of the hull: a strip that touches the hull at two corners alone can be turned a little and gets narrower. It needs two readings.
func narrowest(r []api.Reading) strip {
	var best strip
	var least api.Frac
	for _, side := range []int{1, -1} {
		ends := corners(r, side)
		for k := 1; k < len(ends); k++ {
			s := along(r, r[ends[k-1]], r[ends[k]])
			if size := s.size(); best.run == 0 || isLess(size, least) {
				best, least = s, size
			}
		}
	}
	return best
}

// along returns the strip of the slope from x to y.
func along(r []api.Reading, x, y api.Reading) strip {
	s := strip{rise: y.Offset - x.Offset, run: y.Time - x.Time}
	s.low = s.height(x)
	s.high = s.low
	for _, z := range r {
		s.low = min(s.low, s.height(z))
		s.high = max(s.high, s.height(z))
	}
	return s
}

// height returns how far a reading is above the line through 0 with the strip's slope, times run.
func (s strip) height(x api.Reading) int {
	return x.Offset*s.run - s.rise*x.Time
}

// size returns the greatest error of the line in the middle of the strip.
func (s strip) size() api.Frac {
	size, _ := gear.Make(s.high-s.low, 2*s.run)
	return size
}

// isLess reports whether a < b, for valid fractions.
func isLess(a, b api.Frac) bool {
	order, _ := gear.Cmp(a, b)
	return order < 0
}

// corners returns the corners of the hull, from below if side is 1, and from above if it is -1.
func corners(r []api.Reading, side int) []int {
	var ends []int
	for k, x := range r {
		for len(ends) > 1 && side*turn(r[ends[len(ends)-2]], r[ends[len(ends)-1]], x) <= 0 {
			ends = ends[:len(ends)-1]
		}
		ends = append(ends, k)
	}
	return ends
}

// turn returns a number above 0 if z is above the line through x and y, 0 if it is on it, and one below 0 otherwise.
func turn(x, y, z api.Reading) int {
	return (y.Time-x.Time)*(z.Offset-x.Offset) - (y.Offset-x.Offset)*(z.Time-x.Time)
}
