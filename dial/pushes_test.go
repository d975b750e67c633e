package dial_test

import (
	"testing"

	"tourbillon/api"
	"tourbillon/dial"
)

// counts is how often PushDay, PushMonth, PushWeekday and PushMoon are pushed.
type counts [4]int

func pushes(from, to api.Face) (counts, api.Errno) {
	days, months, weekdays, moons, e := dial.Pushes(from, to)
	return counts{days, months, weekdays, moons}, e
}

func TestPushesByHand(t *testing.T) {
	for _, c := range []struct {
		from, to api.Face
		want     counts
		e        api.Errno
	}{
		{face(1, 1, 0, 0, 0), face(1, 1, 0, 0, 0), counts{}, api.OK},
		{face(31, 12, 3, 6, 58), face(31, 12, 3, 6, 58), counts{}, api.OK},
		{face(5, 3, 1, 2, 3), face(17, 3, 1, 2, 3), counts{12, 0, 0, 0}, api.OK},
		{face(5, 3, 1, 2, 3), face(5, 4, 1, 3, 4), counts{0, 1, 1, 1}, api.OK},
		{face(5, 3, 1, 2, 3), face(5, 2, 1, 1, 2), counts{0, 47, 6, 58}, api.OK},
		{face(5, 3, 1, 2, 3), face(5, 3, 0, 2, 3), counts{0, 36, 0, 0}, api.OK},
		{face(1, 12, 3, 6, 58), face(31, 1, 0, 0, 0), counts{30, 1, 1, 1}, api.OK},
		{face(31, 1, 0, 0, 0), face(29, 2, 0, 0, 0), counts{0, 1, 0, 0}, api.OK}, // the month is too short for the day
		{face(31, 1, 0, 0, 0), face(28, 2, 0, 0, 0), counts{}, api.ErrNone},
		{face(31, 1, 0, 0, 0), face(28, 2, 1, 0, 0), counts{0, 13, 0, 0}, api.OK},
		{face(31, 1, 0, 0, 0), face(31, 3, 0, 0, 0), counts{2, 2, 0, 0}, api.OK}, // through February, which leaves 29
		{face(31, 1, 1, 0, 0), face(31, 3, 1, 0, 0), counts{3, 2, 0, 0}, api.OK},
		{face(31, 1, 1, 0, 0), face(27, 3, 1, 0, 0), counts{}, api.ErrNone},
		{face(31, 1, 1, 0, 0), face(28, 3, 1, 0, 0), counts{0, 2, 0, 0}, api.OK},
		{face(31, 3, 0, 0, 0), face(30, 5, 0, 0, 0), counts{0, 2, 0, 0}, api.OK}, // through April
		{face(31, 3, 0, 0, 0), face(29, 5, 0, 0, 0), counts{}, api.ErrNone},
		{face(17, 3, 0, 0, 0), face(16, 3, 0, 0, 0), counts{}, api.ErrNone}, // no year of pushes of PushMonth instead
		{face(31, 3, 0, 0, 0), face(30, 3, 0, 5, 9), counts{}, api.ErrNone},
		{face(29, 2, 0, 6, 58), face(28, 2, 0, 0, 0), counts{}, api.ErrNone},
		{face(29, 2, 0, 6, 58), face(28, 2, 3, 0, 0), counts{0, 36, 1, 1}, api.OK},
		{face(28, 2, 3, 0, 57), face(29, 2, 0, 6, 58), counts{1, 12, 6, 1}, api.OK},
	} {
		if n, e := pushes(c.from, c.to); n != c.want || e != c.e {
			t.Errorf("Pushes(%v, %v) = %v, %d, not %v, %d", c.from, c.to, n, e, c.want, c.e)
		}
	}
}

// wanted searches for the least number of pushes of each corrector.
func wanted(from, to api.Face, days [48]int) (counts, api.Errno) {
	months := turns(monthOf(from), monthOf(to), 48)
	f := afterMonths(from, months, days)
	if f.Day > to.Day {
		return counts{}, api.ErrNone
	}
	return counts{to.Day - f.Day, months, turns(from.Weekday, to.Weekday, 7), turns(from.Moon, to.Moon, 59)}, api.OK
}

func TestPushes(t *testing.T) {
	faces := row()
	days := lengths(faces)
	for k, from := range faces {
		if d := from.Day; d != 1 && d != 15 && d < 27 {
			continue
		}
		from = with(from, k%7, k%59)
		for n, to := range faces {
			to = with(to, n*n%7, n*n%59)
			want, e := wanted(from, to, days)
			if got, e2 := pushes(from, to); got != want || e != e2 {
				t.Fatalf("Pushes(%v, %v) = %v, %d, not %v, %d", from, to, got, e2, want, e)
			}
		}
	}
}

func TestPushesOfHands(t *testing.T) {
	for from := range 7 {
		for to := range 7 {
			if n, e := pushes(face(3, 4, 1, from, 8), face(3, 4, 1, to, 8)); n != (counts{0, 0, turns(from, to, 7), 0}) || e != api.OK {
				t.Errorf("Weekday from %d to %d: %v, %d", from, to, n, e)
			}
		}
	}
	for from := range 59 {
		for to := range 59 {
			if n, e := pushes(face(3, 4, 1, 5, from), face(3, 4, 1, 5, to)); n != (counts{0, 0, 0, turns(from, to, 59)}) || e != api.OK {
				t.Errorf("Moon from %d to %d: %v, %d", from, to, n, e)
			}
		}
	}
}

// follow pushes a corrector, and asks that the face does not look like `to` before the last push does it: by `alike`.
func follow(t *testing.T, f, to api.Face, push, n int, alike func(a, b api.Face) bool) api.Face {
	t.Helper()
	for range n {
		if alike(f, to) {
			t.Fatalf("%v is there before all of %d pushes of %d", f, n, push)
		}
		var e api.Errno
		f, e = dial.Correct(f, push)
		if e != api.OK {
			t.Fatalf("Correct(%v, %d): %d", f, push, e)
		}
	}
	if !alike(f, to) {
		t.Fatalf("%v is not at %v after %d pushes of %d", f, to, n, push)
	}
	return f
}

// TestD6: following Pushes from one face leads to the other, with no push too many; where there is no way, the day is above the one that is asked for once the month is right.
func TestD6(t *testing.T) {
	faces := row()
	sameMonth := func(a, b api.Face) bool { return a.Month == b.Month && a.Leap == b.Leap }
	seen := map[api.Errno]int{}
	for k := 0; k < fourYears; k += 5 {
		for n := k % 7; n < fourYears; n += 7 {
			from, to := with(faces[k], n%7, k%59), with(faces[n], k%7, n%59)
			c, e := pushes(from, to)
			seen[e]++
			if e != api.OK {
				f := from
				for !sameMonth(f, to) {
					f, _ = dial.Correct(f, api.PushMonth)
				}
				if f.Day <= to.Day || c != (counts{}) || e != api.ErrNone {
					t.Fatalf("Pushes(%v, %v) = %v, %d", from, to, c, e)
				}
				continue
			}
			f := follow(t, from, to, api.PushMonth, c[1], sameMonth)
			f = follow(t, f, to, api.PushDay, c[0], func(a, b api.Face) bool { return sameMonth(a, b) && a.Day == b.Day })
			f = follow(t, f, to, api.PushWeekday, c[2], func(a, b api.Face) bool { return a.Weekday == b.Weekday })
			f = follow(t, f, to, api.PushMoon, c[3], func(a, b api.Face) bool { return a.Moon == b.Moon })
			if f != to {
				t.Fatalf("from %v to %v: %v", from, to, f)
			}
		}
	}
	if seen[api.OK] == 0 || seen[api.ErrNone] == 0 {
		t.Errorf("seen: %v", seen)
	}
}

func TestPushesInvalid(t *testing.T) {
	good := face(15, 6, 2, 3, 30)
	for _, bad := range badFaces() {
		for _, c := range [][2]api.Face{{bad, good}, {good, bad}, {bad, bad}} {
			n, e := pushes(c[0], c[1])
			fails(t, e, api.ErrArg, n == counts{}, "Pushes", c)
		}
	}
}
