package dial_test

import (
	"math"
	"testing"
	"time"

	"tourbillon/api"
)

// The tests compare the package with package time's arithmetic of dates, with the days of four years laid out in a row, and with a chronograph that is run eighth by eighth.

const (
	lastNumber = 3652058 // of 31 December 9999
	fourYears  = 1461
)

func date(year, month, day int) api.Date {
	return api.Date{Year: year, Month: month, Day: day}
}

// noon returns a date as package time has it.
func noon(d api.Date) time.Time {
	return time.Date(d.Year, time.Month(d.Month), d.Day, 12, 0, 0, 0, time.UTC)
}

func dateOfTime(t time.Time) api.Date {
	return date(t.Year(), int(t.Month()), t.Day())
}

// plus returns the date some days after d.
func plus(d api.Date, days int) api.Date {
	return dateOfTime(noon(d).AddDate(0, 0, days))
}

func minus(a, b api.Date) int {
	return int((noon(a).Unix() - noon(b).Unix()) / (24 * 60 * 60))
}

func lengthOf(year, month int) int {
	return time.Date(year, time.Month(month)+1, 0, 12, 0, 0, 0, time.UTC).Day()
}

// faceOf returns the face of a date.
func faceOf(d api.Date, moon int) api.Face {
	return api.Face{Day: d.Day, Month: d.Month, Leap: d.Year % 4, Weekday: int(noon(d).Weekday()), Moon: moon}
}

func face(day, month, leap, weekday, moon int) api.Face {
	return api.Face{Day: day, Month: month, Leap: leap, Weekday: weekday, Moon: moon}
}

// row returns Day, Month and Leap of the faces of four years, from 1 January of a leap year on.
func row() []api.Face {
	var faces []api.Face
	for d := date(2000, 1, 1); d.Year < 2004; d = plus(d, 1) {
		faces = append(faces, face(d.Day, d.Month, d.Year%4, 0, 0))
	}
	return faces
}

// lengths returns the days of each of the 48 months of a row.
func lengths(faces []api.Face) [48]int {
	var days [48]int
	for _, f := range faces {
		days[monthOf(f)]++
	}
	return days
}

// monthOf returns the number of a face's month in a row.
func monthOf(f api.Face) int {
	return 12*f.Leap + f.Month - 1
}

// with returns f with another Weekday and Moon.
func with(f api.Face, weekday, moon int) api.Face {
	f.Weekday, f.Moon = weekday, moon
	return f
}

// afterMonths returns Day, Month and Leap of f after some pushes of PushMonth, and leaves the rest as it is.
func afterMonths(f api.Face, pushes int, days [48]int) api.Face {
	month, day := monthOf(f), f.Day
	for range pushes {
		month = (month + 1) % 48
		day = min(day, days[month])
	}
	return face(day, month%12+1, month/12, f.Weekday, f.Moon)
}

// turns returns how often a hand of some places is pushed to come from one of them to another one.
func turns(from, to, places int) int {
	n := 0
	for from != to {
		from++
		if from == places {
			from = 0
		}
		n++
	}
	return n
}

// firstFalse returns the first midnight after d, up to nights, that ends a 28 February of a year that 4 divides and that is no leap year; -1 if none does.
func firstFalse(d api.Date, nights int) int {
	for year := d.Year; ; year++ {
		end := date(year, 2, 28)
		n := minus(end, d) + 1
		switch {
		case n > nights:
			return -1
		case n >= 1 && year%4 == 0 && lengthOf(year, 2) == 28:
			return n
		}
	}
}

// dates returns valid dates: the ends of what is valid, the ends of months and years, and the days around 28 February of years of each kind.
func dates() []api.Date {
	all := []api.Date{date(1, 1, 1), date(1, 1, 2), date(9999, 12, 31), date(9999, 12, 30), date(2026, 11, 20)}
	for _, year := range []int{1, 2, 3, 4, 5, 99, 100, 101, 400, 1582, 1600, 1700, 1899, 1900, 1901, 1904, 1999, 2000, 2001, 2023, 2024, 2099, 2100, 2101, 2104, 2200, 2400, 9600, 9725, 9726, 9800, 9900, 9996, 9998, 9999} {
		for month := 1; month <= 12; month++ {
			all = append(all, date(year, month, 1), date(year, month, 27), date(year, month, 28), date(year, month, lengthOf(year, month)))
		}
	}
	return all
}

// far returns numbers that are outside every range of the package.
func far() []int {
	return []int{math.MinInt, math.MinInt + 1, -1 << 32, 1 << 32, 1<<32 + 1, math.MaxInt - 1, math.MaxInt}
}

func badMonths() [][2]int {
	bad := [][2]int{{0, 1}, {-1, 1}, {10000, 1}, {0, 2}, {10000, 2}, {2000, 0}, {2000, -1}, {2000, 13}, {0, 0}, {10000, 13}, {1, 0}, {9999, 13}, {-4, 2}, {-400, 2}}
	for _, n := range far() {
		bad = append(bad, [2]int{n, 1}, [2]int{n, 2}, [2]int{2000, n}, [2]int{n, n})
	}
	return bad
}

// badDates returns dates that are not valid.
func badDates() []api.Date {
	bad := []api.Date{
		{}, date(1, 1, 0), date(9999, 12, 32), date(2000, 1, -1), date(2000, 1, 0), date(2000, 1, 32),
		date(2000, 2, 30), date(2004, 2, 30), date(1900, 2, 29), date(2100, 2, 29), date(100, 2, 29), date(2001, 2, 29), date(2002, 2, 29), date(2003, 2, 29), date(9999, 2, 29),
	}
	for month := 1; month <= 12; month++ {
		bad = append(bad, date(2001, month, lengthOf(2001, month)+1), date(2000, month, lengthOf(2000, month)+1), date(2000, month, 0))
	}
	for _, p := range badMonths() {
		bad = append(bad, date(p[0], p[1], 1))
	}
	for _, n := range far() {
		bad = append(bad, date(2000, 1, n), date(2000, 2, n), date(n, n, n))
	}
	return bad
}

// badFaces returns faces that are not valid.
func badFaces() []api.Face {
	bad := []api.Face{
		{}, face(0, 1, 0, 0, 0), face(-1, 1, 0, 0, 0), face(1, 0, 0, 0, 0), face(1, 13, 0, 0, 0), face(1, -1, 0, 0, 0), face(1, 1, -1, 0, 0), face(1, 1, 4, 0, 0),
		face(1, 1, 0, -1, 0), face(1, 1, 0, 7, 0), face(1, 1, 0, 0, -1), face(1, 1, 0, 0, 59), face(29, 2, -1, 0, 0), face(29, 2, 4, 0, 0), face(31, 0, 0, 0, 0), face(28, 13, 0, 0, 0),
	}
	days := lengths(row())
	for month, n := range days {
		bad = append(bad, face(n+1, month%12+1, month/12, 3, 30), face(0, month%12+1, month/12, 3, 30))
	}
	for _, n := range far() {
		bad = append(bad, face(n, 1, 0, 0, 0), face(n, 2, 1, 0, 0), face(1, n, 0, 0, 0), face(1, 1, n, 0, 0), face(1, 1, 0, n, 0), face(1, 1, 0, 0, n), face(n, n, n, n, n))
	}
	return bad
}

func badNights() []int {
	return append(far(), -1, api.MaxNights+1)
}

// push is what the tests write for a push.
func push(time, button int) api.Push {
	return api.Push{Time: time, Button: button}
}

// script returns pushes that are written as numbers: Time and Button of each.
func script(numbers ...int) []api.Push {
	var pushes []api.Push
	for k := 0; k < len(numbers); k += 2 {
		pushes = append(pushes, push(numbers[k], numbers[k+1]))
	}
	return pushes
}

// times returns a push many times.
func times(n int, p api.Push) []api.Push {
	var pushes []api.Push
	for range n {
		pushes = append(pushes, p)
	}
	return pushes
}

// badPushes returns pushes that are not valid.
func badPushes() [][]api.Push {
	good := script(1, 1, 2, 3, 3, 2)
	bad := [][]api.Push{
		script(-1, 1), script(api.MaxTime+1, 1), script(2, 1, 1, 1), script(0, 1, 5, 3, 4, 3), script(5, 1, 0, 1), script(1, 1, 0, 2, 2, 3), script(api.MaxTime, 1, 0, 1),
		script(5, 0), script(5, 4), script(5, -1), script(0, 0), append(good, push(3, 0)), append(good, push(3, 4)), append(good, push(2, 1)), append(good, push(api.MaxTime+1, 1)),
		times(1001, push(7, 1)), times(1001, push(0, 3)), times(2000, push(api.MaxTime, 2)), append(times(999, push(7, 1)), push(6, 1)), append(times(999, push(7, 1)), push(7, 5)),
	}
	for _, n := range far() {
		bad = append(bad, script(n, 1), script(1, n), script(n, n), script(0, 1, n, 1), script(0, 1, 0, n))
	}
	return bad
}

// clockwork is a chronograph that is run eighth by eighth.
type clockwork struct {
	runs    bool
	main    int
	holding bool
	place   int
}

func (c *clockwork) press(button int) {
	switch {
	case button == api.ButtonStart && c.runs:
		c.runs = false
	case button == api.ButtonStart:
		c.runs = true
	case button == api.ButtonReset && c.runs:
		c.main = 0
	case button == api.ButtonReset:
		c.main, c.holding = 0, false
	case c.holding:
		c.holding = false
	case c.runs:
		c.holding, c.place = true, c.main
	}
}

func (c *clockwork) shows() api.Chrono {
	if c.holding {
		return api.Chrono{Runs: c.runs, Held: true, Main: c.main, Split: c.place}
	}
	return api.Chrono{Runs: c.runs, Main: c.main, Split: c.main}
}

// run returns what a chronograph shows at each time from 0 to last, and its laps up to then.
func run(pushes []api.Push, last int) ([]api.Chrono, []int) {
	var c clockwork
	var shown []api.Chrono
	var laps []int
	for now := 0; now <= last; now++ {
		if now > 0 && c.runs {
			c.main++
		}
		for _, p := range pushes {
			if p.Time == now {
				held := c.holding
				c.press(p.Button)
				if c.holding && !held {
					laps = append(laps, c.place)
				}
			}
		}
		shown = append(shown, c.shows())
	}
	return shown, laps
}

// ran returns for how long a chronograph ran up to a time since it was reset last.
func ran(pushes []api.Push, at int) int {
	reset, done := 0, 0
	for k, p := range pushes {
		if p.Time <= at {
			done = k + 1
			if p.Button == api.ButtonReset {
				reset = p.Time
			}
		}
	}
	sum, since, runs := 0, 0, false
	for _, p := range append(pushes[:done:done], push(at, api.ButtonStart)) {
		if p.Button != api.ButtonStart {
			continue
		}
		if runs {
			sum += max(p.Time, reset) - max(since, reset)
		}
		since, runs = p.Time, !runs
	}
	return sum
}

func fails(t *testing.T, e, want api.Errno, zero bool, call string, arguments ...any) {
	t.Helper()
	if e != want || !zero {
		t.Errorf("%s%v: %d, not %d; other results zero: %t", call, arguments, e, want, zero)
	}
}
