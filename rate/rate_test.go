package rate_test

import (
	"math"
	"math/big"
	"math/rand"
	"slices"
	"testing"

	"tourbillon/api"
	"tourbillon/rate"
)

func TestSlope(t *testing.T) {
	for _, c := range []struct {
		r    []api.Reading
		i, j int
		want api.Frac
	}{
		{at(0, 0, 2, 3), 0, 1, fr(3, 2)},
		{at(0, 0, 2, 3), 1, 0, fr(3, 2)},
		{at(0, 5, 1, 9, 4, 5), 0, 2, fr(0, 1)},
		{at(0, 5, 1, 9, 4, 5), 2, 1, fr(-4, 3)},
		{at(-6, 4, 0, 0), 0, 1, fr(-2, 3)},
		{at(-m, -m, -m+1, m), 1, 0, fr(2*m, 1)},
		{at(-m, m, -m+1, -m), 0, 1, fr(-2*m, 1)},
		{at(-m, 0, m, 1), 0, 1, fr(1, 2*m)},
		{steps(api.MaxReadings, 0, 2, func(time int) int { return -3 * time }), 63, 5, fr(-3, 1)},
	} {
		if x, e := rate.Slope(c.r, c.i, c.j); x != c.want || e != api.OK {
			t.Errorf("Slope(%v, %d, %d) = %v, %d, not %v", c.r, c.i, c.j, x, e, c.want)
		}
	}
}

func TestSlopeOfAllPairs(t *testing.T) {
	for _, r := range samples()[:60] {
		for i, x := range r {
			for j, y := range r {
				s, e := rate.Slope(r, i, j)
				if i == j {
					if s != (api.Frac{}) || e != api.ErrArg {
						t.Fatalf("Slope(%v, %d, %d) = %v, %d", r, i, j, s, e)
					}
					continue
				}
				if want, _ := fracsOf(through(x, y)); s != want[0] || e != api.OK {
					t.Fatalf("Slope(%v, %d, %d) = %v, %d, not %v", r, i, j, s, e, want[0])
				}
			}
		}
	}
}

func TestSlopeInvalid(t *testing.T) {
	good := at(0, 0, 1, 1, 2, 0)
	for _, p := range [][2]int{{0, 0}, {2, 2}, {-1, 0}, {0, -1}, {3, 0}, {0, 3}, {-1, -1}, {3, 3}, {-1, 3}, {math.MinInt, 0}, {0, math.MinInt}, {math.MaxInt, 0}, {0, math.MaxInt}} {
		if x, e := rate.Slope(good, p[0], p[1]); x != (api.Frac{}) || e != api.ErrArg {
			t.Errorf("Slope(%v) = %v, %d", p, x, e)
		}
	}
	for _, r := range badReadings() {
		for _, p := range [][2]int{{0, 1}, {1, 0}, {0, 2}, {0, 0}, {-1, 5}} {
			if x, e := rate.Slope(r, p[0], p[1]); x != (api.Frac{}) || e != api.ErrArg {
				t.Errorf("Slope(%v, %v) = %v, %d", r, p, x, e)
			}
		}
	}
}

// squaresOf returns the line of least squares, through the mean of the readings.
func squaresOf(r []api.Reading) bigLine {
	n := whole(len(r))
	time, offset := new(big.Rat), new(big.Rat)
	for _, x := range r {
		time.Add(time, whole(x.Time))
		offset.Add(offset, whole(x.Offset))
	}
	time.Quo(time, n)
	offset.Quo(offset, n)
	over, under := new(big.Rat), new(big.Rat)
	for _, x := range r {
		dt := new(big.Rat).Sub(whole(x.Time), time)
		do := new(big.Rat).Sub(whole(x.Offset), offset)
		over.Add(over, do.Mul(do, dt))
		under.Add(under, dt.Mul(dt, dt))
	}
	slope := over.Quo(over, under)
	return bigLine{slope, offset.Sub(offset, time.Mul(time, slope))}
}

// squareSum returns the sum of the squares of a line's errors.
func squareSum(r []api.Reading, l bigLine) *big.Rat {
	sum := new(big.Rat)
	for _, x := range r {
		off := l.off(x)
		sum.Add(sum, off.Mul(off, off))
	}
	return sum
}

func TestSquaresByHand(t *testing.T) {
	for _, c := range []struct {
		r    []api.Reading
		want api.Line
	}{
		{at(0, 0, 1, 1, 2, 0), lineOf(fr(0, 1), fr(1, 3))},
		{at(0, 0, 2, 3), lineOf(fr(3, 2), fr(0, 1))},
		{at(1, 1, 2, 3, 3, 2, 5, 9), lineOf(fr(67, 35), fr(-53, 35))},
		{at(-m, -m, m, m), lineOf(fr(1, 1), fr(0, 1))},
		{at(m-1, -m, m, m), lineOf(fr(2*m, 1), fr(m-2*m*m, 1))},
		{steps(api.MaxReadings, -m, 2*m/63, func(int) int { return -m }), lineOf(fr(0, 1), fr(-m, 1))},
	} {
		if l, e := rate.Squares(c.r); l != c.want || e != api.OK {
			t.Errorf("Squares(%v) = %v, %d, not %v", c.r, l, e, c.want)
		}
	}
}

// TestSquares compares Squares with the line through the mean, whose numbers may be beyond what is valid.
func TestSquares(t *testing.T) {
	beyond := 0
	for _, r := range samples() {
		want, wantErr := squaresOf(r).frac()
		if l, e := rate.Squares(r); l != want || e != wantErr {
			t.Fatalf("Squares(%v) = %v, %d, not %v, %d", r, l, e, want, wantErr)
		}
		if wantErr == api.ErrRange {
			beyond++
		}
	}
	if beyond < 20 {
		t.Errorf("only %d samples are beyond the range", beyond)
	}
}

// TestSquaresNearEnds compares shifts whose numerators are near MaxFrac, on either side.
func TestSquaresNearEnds(t *testing.T) {
	r := rand.New(rand.NewSource(31))
	below, above := 0, 0
	for range 4000 {
		x := []api.Reading{{Time: -m + r.Intn(9), Offset: m - r.Intn(999)}, {Time: -r.Intn(9) - 1, Offset: r.Intn(m)}, {Time: m - r.Intn(9), Offset: m - r.Intn(m)}}
		line := squaresOf(x)
		want, wantErr := line.frac()
		if l, e := rate.Squares(x); l != want || e != wantErr {
			t.Fatalf("Squares(%v) = %v, %d, not %v, %d", x, l, e, want, wantErr)
		}
		switch size := line.shift.Num().BitLen(); {
		case wantErr == api.OK && size == 62:
			below++
		case wantErr == api.ErrRange && size == 63:
			above++
		}
	}
	if below == 0 || above == 0 {
		t.Errorf("%d shifts just in range, %d just beyond it", below, above)
	}
}

// TestR1 checks that errors add up to 0, also weighted with the Times, and that lines nearby are no better.
func TestR1(t *testing.T) {
	for _, r := range samples()[:300] {
		l, e := rate.Squares(r)
		if e != api.OK {
			continue
		}
		line := bigLineOf(l)
		sum, weighted := new(big.Rat), new(big.Rat)
		for _, x := range r {
			off := line.off(x)
			sum.Add(sum, off)
			weighted.Add(weighted, off.Mul(off, whole(x.Time)))
		}
		if sum.Sign() != 0 || weighted.Sign() != 0 {
			t.Fatalf("Squares(%v) = %v: the errors add up to %v, weighted to %v", r, l, sum, weighted)
		}
		least := squareSum(r, line)
		for _, d := range [][2]int64{{1, 0}, {-1, 0}, {0, 1}, {0, -1}, {1, 1}, {-1, 1}, {1, -1}, {1, -50}} {
			other := bigLine{new(big.Rat).Add(line.slope, big.NewRat(d[0], 1000)), new(big.Rat).Add(line.shift, big.NewRat(d[1], 1000))}
			if squareSum(r, other).Cmp(least) <= 0 {
				t.Fatalf("Squares(%v) = %v: %v is as good", r, l, other)
			}
		}
	}
}

// medianOf returns the median of numbers.
func medianOf(numbers []*big.Rat) *big.Rat {
	slices.SortFunc(numbers, (*big.Rat).Cmp)
	n := len(numbers)
	if n%2 == 1 {
		return numbers[n/2]
	}
	sum := new(big.Rat).Add(numbers[n/2-1], numbers[n/2])
	return sum.Quo(sum, whole(2))
}

// slopesOf returns the slopes of all pairs of readings.
func slopesOf(r []api.Reading) []*big.Rat {
	var slopes []*big.Rat
	for j := range r {
		for i := range j {
			slopes = append(slopes, through(r[i], r[j]))
		}
	}
	return slopes
}

func medianLineOf(r []api.Reading) bigLine {
	slope := medianOf(slopesOf(r))
	var shifts []*big.Rat
	for _, x := range r {
		shifts = append(shifts, bigLine{slope, new(big.Rat)}.off(x))
	}
	return bigLine{slope, medianOf(shifts)}
}

func TestMedianByHand(t *testing.T) {
	for _, c := range []struct {
		r    []api.Reading
		want api.Line
	}{
		{at(0, 0, 1, 1, 2, 0), lineOf(fr(0, 1), fr(0, 1))},                    // three slopes, three shifts
		{at(0, 0, 2, 3), lineOf(fr(3, 2), fr(0, 1))},                          // one slope, two shifts
		{at(0, 0, 1, 1, 2, 0, 3, 1), lineOf(fr(1, 6), fr(1, 4))},              // slopes -1 0 0 1/3 1 1, shifts -1/3 0 1/2 5/6
		{at(0, 0, 1, 0, 2, 1, 3, 3, 4, 7), lineOf(fr(13, 8), fr(-13, 8))},     // ten slopes, five shifts
		{at(0, 1, 1, 1, 2, 1, 3, 90, 4, 1, 5, 1), lineOf(fr(0, 1), fr(1, 1))}, // fifteen slopes, six shifts
		{at(-m, m, m, -m), lineOf(fr(-1, 1), fr(0, 1))},
		{at(m-1, -m, m, m), lineOf(fr(2*m, 1), fr(m-2*m*m, 1))},
		{steps(api.MaxReadings, -m, 1, func(time int) int { return -time }), lineOf(fr(-1, 1), fr(0, 1))},
	} {
		if l, e := rate.Median(c.r); l != c.want || e != api.OK {
			t.Errorf("Median(%v) = %v, %d, not %v", c.r, l, e, c.want)
		}
	}
}

// TestMedian compares Median with sorted exact numbers.
func TestMedian(t *testing.T) {
	for _, r := range samples() {
		want, wantErr := medianLineOf(r).frac()
		if l, e := rate.Median(r); l != want || e != wantErr {
			t.Fatalf("Median(%v) = %v, %d, not %v, %d", r, l, e, want, wantErr)
		}
	}
}

// TestMedianGreat compares medians whose numbers on the way, and some of the shifts, are too great: steep slopes of long runs.
func TestMedianGreat(t *testing.T) {
	r := rand.New(rand.NewSource(32))
	fine, beyond := 0, 0
	for range 3000 {
		x := []api.Reading{{Time: -m + r.Intn(9), Offset: -m + r.Intn(1+r.Intn(m))}, {Time: -r.Intn(99999), Offset: r.Intn(m)}, {Time: 1 + r.Intn(99), Offset: r.Intn(m)}, {Time: m - r.Intn(9999), Offset: m - r.Intn(m)}}
		line := medianLineOf(x)
		want, wantErr := line.frac()
		if l, e := rate.Median(x); l != want || e != wantErr {
			t.Fatalf("Median(%v) = %v, %d, not %v, %d", x, l, e, want, wantErr)
		}
		if wantErr == api.ErrRange {
			beyond++
		} else if line.shift.Num().BitLen() > 60 {
			fine++
		}
	}
	if fine == 0 || beyond == 0 {
		t.Errorf("%d shifts just in range, %d beyond it", fine, beyond)
	}
}

// TestR2 counts slopes below and above Median's.
func TestR2(t *testing.T) {
	for _, r := range samples() {
		l, e := rate.Median(r)
		if e != api.OK {
			continue
		}
		below, above, slopes := 0, 0, slopesOf(r)
		for _, s := range slopes {
			switch s.Cmp(bigOf(l.Slope)) {
			case -1:
				below++
			case 1:
				above++
			}
		}
		if 2*below > len(slopes) || 2*above > len(slopes) {
			t.Fatalf("Median(%v) = %v: of %d slopes %d are below, %d above", r, l, len(slopes), below, above)
		}
	}
}

func TestLinesInvalid(t *testing.T) {
	for _, r := range badReadings() {
		if l, e := rate.Squares(r); l != (api.Line{}) || e != api.ErrArg {
			t.Errorf("Squares(%v) = %v, %d", r, l, e)
		}
		if l, e := rate.Median(r); l != (api.Line{}) || e != api.ErrArg {
			t.Errorf("Median(%v) = %v, %d", r, l, e)
		}
		if l, x, e := rate.Least(r); l != (api.Line{}) || x != (api.Frac{}) || e != api.ErrArg {
			t.Errorf("Least(%v) = %v, %v, %d", r, l, x, e)
		}
		if w, e := rate.Witnesses(r); len(w) != 0 || e != api.ErrArg {
			t.Errorf("Witnesses(%v) = %v, %d", r, w, e)
		}
		if below, above, e := rate.Hull(r); len(below) != 0 || len(above) != 0 || e != api.ErrArg {
			t.Errorf("Hull(%v) = %v, %v, %d", r, below, above, e)
		}
	}
}

func TestWorstByHand(t *testing.T) {
	const f = api.MaxFrac
	two := at(0, 0, 1, 0)
	for _, c := range []struct {
		r    []api.Reading
		l    api.Line
		want api.Frac
		e    api.Errno
	}{
		{at(0, 0, 1, 1, 2, 0), lineOf(fr(0, 1), fr(1, 2)), fr(1, 2), api.OK},
		{at(0, 0, 1, 1, 2, 0), lineOf(fr(0, 1), fr(1, 3)), fr(2, 3), api.OK},
		{at(0, 0, 1, 1, 2, 0), lineOf(fr(0, 1), fr(0, 1)), fr(1, 1), api.OK},
		{at(0, 0, 1, -5, 2, 3), lineOf(fr(0, 1), fr(0, 1)), fr(5, 1), api.OK},
		{at(0, 0, 2, 3), lineOf(fr(3, 2), fr(0, 1)), fr(0, 1), api.OK},
		{at(0, 0, 6, 0), lineOf(fr(1, 6), fr(1, 4)), fr(5, 4), api.OK},
		{two, lineOf(fr(0, 1), fr(f, 1)), fr(f, 1), api.OK},
		{two, lineOf(fr(0, 1), fr(-f, 1)), fr(f, 1), api.OK},
		{at(0, -1, 1, 0), lineOf(fr(0, 1), fr(f, 1)), api.Frac{}, api.ErrRange},
		{at(0, -1, 1, 0), lineOf(fr(0, 1), fr(f-1, 1)), fr(f, 1), api.OK},
		{two, lineOf(fr(1, 1), fr(f, 1)), api.Frac{}, api.ErrRange},
		{two, lineOf(fr(f, 1), fr(-f, 1)), fr(f, 1), api.OK},
		{at(1, 0, 2, 0), lineOf(fr(f, 1), fr(-f, 1)), fr(f, 1), api.OK},
		{at(m-1, 0, m, 0), lineOf(fr(f, 1), fr(-f, 1)), api.Frac{}, api.ErrRange},
		{two, lineOf(fr(0, 1), fr(1, f)), fr(1, f), api.OK},
		{two, lineOf(fr(1, f), fr(0, 1)), fr(1, f), api.OK},
		{two, lineOf(fr(1, f), fr(1, f)), fr(1, f/2), api.OK},
		{at(0, 0, 2, 0), lineOf(fr(1, f), fr(1, f)), fr(3, f), api.OK},
		{two, lineOf(fr(1, 3), fr(1, f)), api.Frac{}, api.ErrRange},
		{two, lineOf(fr(1, f), fr(1, 3)), api.Frac{}, api.ErrRange},
		{at(0, 0, 3, 0), lineOf(fr(1, 3), fr(1, f)), api.Frac{}, api.ErrRange},    // (f+1)/f
		{at(-3, 0, 0, 0), lineOf(fr(1, 3), fr(1, f)), fr(f-1, f), api.OK},         // what the denominators do not share is cancelled
		{at(-1, 0, 0, 0), lineOf(fr(1, f-1), fr(1, f)), fr(1, f), api.OK},         // the other one is beyond
		{at(0, 1, 1, 1), lineOf(fr(1, f-1), fr(1, f)), fr(f-1, f), api.OK},        // so it is here
		{at(-1, 0, 1, 0), lineOf(fr(1, f-1), fr(1, f)), api.Frac{}, api.ErrRange}, // 2^124 and more under the line
		{two, lineOf(fr(1, 1<<32), fr(1, 1<<32+1)), api.Frac{}, api.ErrRange},     // 2^64 + 2^32 under the line
		{two, lineOf(fr(1, 1<<40), fr(1, 1<<40+1)), api.Frac{}, api.ErrRange},     // 2^80 + 2^40
		{at(-m, m, m, m), lineOf(fr(f, f-1), fr(f-1, f)), api.Frac{}, api.ErrRange},
		{at(-m, -m, m, m), lineOf(fr(f, 1), fr(f, 1)), api.Frac{}, api.ErrRange},
	} {
		if x, e := rate.Worst(c.r, c.l); x != c.want || e != c.e {
			t.Errorf("Worst(%v, %v) = %v, %d, not %v, %d", c.r, c.l, x, e, c.want, c.e)
		}
	}
}

// TestWorst compares errors of lines at the ends of what is valid, and of random ones, with exact numbers.
func TestWorst(t *testing.T) {
	r := rand.New(rand.NewSource(33))
	all := samples()
	check := func(x []api.Reading, l api.Line) {
		t.Helper()
		want, wantErr := fracsOf(bigLineOf(l).worst(x))
		if x, e := rate.Worst(x, l); x != want[0] || e != wantErr {
			t.Fatalf("Worst(%v, %v) = %v, %d, not %v, %d", x, l, x, e, want[0], wantErr)
		}
	}
	ends := endFracs()
	for _, slope := range ends {
		for _, shift := range ends {
			check(all[r.Intn(len(all))], lineOf(slope, shift))
			check(at(r.Intn(3)-3, r.Intn(3), r.Intn(3), r.Intn(3)-1), lineOf(slope, shift))
		}
	}
	for _, x := range all {
		num, den := r.Intn(2*m)-m, 1+r.Intn(m)
		l, _ := fracsOf(big.NewRat(int64(num), int64(den)), big.NewRat(int64(r.Intn(2*m)-m), int64(1+r.Intn(2*den))))
		check(x, lineOf(l[0], l[1]))
	}
}

func TestWorstInvalid(t *testing.T) {
	good := at(0, 0, 1, 1, 2, 0)
	for _, x := range badFracs() {
		for _, l := range []api.Line{lineOf(x, fr(0, 1)), lineOf(fr(0, 1), x), lineOf(x, x)} {
			if x, e := rate.Worst(good, l); x != (api.Frac{}) || e != api.ErrArg {
				t.Errorf("Worst(%v) = %v, %d", l, x, e)
			}
		}
	}
	for _, r := range badReadings() {
		for _, l := range []api.Line{lineOf(fr(0, 1), fr(0, 1)), {}, lineOf(fr(1, api.MaxFrac), fr(1, 3))} {
			if x, e := rate.Worst(r, l); x != (api.Frac{}) || e != api.ErrArg {
				t.Errorf("Worst(%v, %v) = %v, %d", r, l, x, e)
			}
		}
	}
}

// TestR5 adds a line to readings: it is added to the lines, and nothing else changes.
func TestR5(t *testing.T) {
	r := rand.New(rand.NewSource(35))
	for range 500 {
		x := randomReadings(r, 2+r.Intn(12))
		a, b := r.Intn(21)-10, r.Intn(2001)-1000
		y := slices.Clone(x)
		for k := range y {
			y[k].Offset += a*y[k].Time + b
		}
		moved := func(l api.Line) api.Line {
			sum := bigLine{new(big.Rat).Add(bigOf(l.Slope), whole(a)), new(big.Rat).Add(bigOf(l.Shift), whole(b))}
			out, _ := sum.frac()
			return out
		}
		if slices.ContainsFunc(y, func(x api.Reading) bool { return max(x.Offset, -x.Offset) > m }) {
			continue
		}
		for _, f := range []func([]api.Reading) (api.Line, api.Errno){rate.Squares, rate.Median} {
			before, e1 := f(x)
			after, e2 := f(y)
			if e1 == api.OK && e2 == api.OK && after != moved(before) {
				t.Fatalf("%v + %dt + %d: %v, not %v", x, a, b, after, moved(before))
			}
		}
		before, size, _ := rate.Least(x)
		after, same, _ := rate.Least(y)
		if after != moved(before) || same != size {
			t.Fatalf("Least(%v + %dt + %d) = %v, %v, not %v, %v", x, a, b, after, same, moved(before), size)
		}
	}
}
