package dial_test

import (
	"math/rand"
	"testing"

	"tourbillon/api"
	"tourbillon/dial"
)

func TestSetByHand(t *testing.T) {
	for _, c := range []struct {
		d    api.Date
		moon int
		want api.Face
	}{
		{date(1, 1, 1), 0, face(1, 1, 1, 1, 0)},
		{date(2000, 1, 1), 58, face(1, 1, 0, 6, 58)},
		{date(2000, 2, 29), 7, face(29, 2, 0, 2, 7)},
		{date(2001, 2, 28), 1, face(28, 2, 1, 3, 1)},
		{date(1970, 1, 1), 30, face(1, 1, 2, 4, 30)},
		{date(2100, 2, 28), 29, face(28, 2, 0, 0, 29)},
		{date(9999, 12, 31), 57, face(31, 12, 3, 5, 57)},
	} {
		if f, e := dial.Set(c.d, c.moon); f != c.want || e != api.OK {
			t.Errorf("Set(%v, %d) = %v, %d, not %v", c.d, c.moon, f, e, c.want)
		}
	}
}

// TestSet asks for every date from the first to the last one at some moon, too, whether its face is valid.
func TestSet(t *testing.T) {
	for _, d := range dates() {
		for moon := range 59 {
			if f, e := dial.Set(d, moon); f != faceOf(d, moon) || e != api.OK {
				t.Fatalf("Set(%v, %d) = %v, %d", d, moon, f, e)
			}
		}
	}
	for number := range lastNumber + 1 {
		d, _ := dial.Date(number)
		f, e := dial.Set(d, number%59)
		if same, e2 := dial.Midnight(f, 0); same != f || e != api.OK || e2 != api.OK {
			t.Fatalf("Set(%v) = %v, %d; Midnight: %v, %d", d, f, e, same, e2)
		}
	}
}

func TestSetInvalid(t *testing.T) {
	for _, d := range badDates() {
		for _, moon := range []int{0, 58, 59, -1} {
			f, e := dial.Set(d, moon)
			fails(t, e, api.ErrArg, f == api.Face{}, "Set", d, moon)
		}
	}
	for _, moon := range append(far(), -1, 59, 60) {
		f, e := dial.Set(date(2000, 1, 1), moon)
		fails(t, e, api.ErrArg, f == api.Face{}, "Set", moon)
	}
}

func TestMidnightByHand(t *testing.T) {
	for _, c := range []struct {
		f      api.Face
		nights int
		want   api.Face
	}{
		{face(1, 1, 0, 0, 0), 0, face(1, 1, 0, 0, 0)},
		{face(31, 12, 3, 6, 58), 0, face(31, 12, 3, 6, 58)},
		{face(1, 1, 0, 0, 0), 1, face(2, 1, 0, 1, 1)},
		{face(28, 2, 0, 2, 5), 1, face(29, 2, 0, 3, 6)},
		{face(29, 2, 0, 2, 5), 1, face(1, 3, 0, 3, 6)},
		{face(28, 2, 1, 2, 5), 1, face(1, 3, 1, 3, 6)},
		{face(28, 2, 2, 2, 5), 1, face(1, 3, 2, 3, 6)},
		{face(28, 2, 3, 2, 5), 1, face(1, 3, 3, 3, 6)},
		{face(27, 2, 3, 2, 5), 1, face(28, 2, 3, 3, 6)},
		{face(30, 4, 2, 6, 5), 1, face(1, 5, 2, 0, 6)},
		{face(30, 1, 2, 5, 58), 1, face(31, 1, 2, 6, 0)},
		{face(31, 12, 0, 6, 58), 1, face(1, 1, 1, 0, 0)},
		{face(31, 12, 1, 0, 57), 1, face(1, 1, 2, 1, 58)},
		{face(31, 12, 2, 1, 1), 1, face(1, 1, 3, 2, 2)},
		{face(31, 12, 3, 5, 2), 1, face(1, 1, 0, 6, 3)},
		{face(1, 1, 0, 0, 0), 366, face(1, 1, 1, 2, 12)},
		{face(1, 1, 1, 0, 0), 365, face(1, 1, 2, 1, 11)},
		{face(1, 1, 0, 0, 0), api.MaxNights, face(14, 10, 1, 5, 54)}, // 68 cycles of 1461 midnights, and 652
		{face(31, 12, 3, 6, 58), api.MaxNights, face(13, 10, 1, 4, 53)},
	} {
		if f, e := dial.Midnight(c.f, c.nights); f != c.want || e != api.OK {
			t.Errorf("Midnight(%v, %d) = %v, %d, not %v", c.f, c.nights, f, e, c.want)
		}
	}
}

func TestMidnight(t *testing.T) {
	faces := row()
	check := func(k, weekday, moon, nights int) {
		want := with(faces[(k+nights)%fourYears], (weekday+nights)%7, (moon+nights)%59)
		if f, e := dial.Midnight(with(faces[k], weekday, moon), nights); f != want || e != api.OK {
			t.Fatalf("Midnight(%v, %d) = %v, %d, not %v", with(faces[k], weekday, moon), nights, f, e, want)
		}
	}
	for k := range faces {
		for weekday := range 7 {
			for moon := range 59 {
				check(k, weekday, moon, 1)
			}
		}
		for _, nights := range []int{0, 1, 2, 6, 7, 8, 28, 29, 30, 31, 58, 59, 60, 365, 366, 1460, 1461, 1462} {
			check(k, k%7, k%59, nights)
		}
	}
	for k := 0; k < fourYears; k += 29 {
		check(k, k%7, k%59, api.MaxNights)
		check(k, k%7, k%59, api.MaxNights-1)
	}
}

// TestD3: 1461 midnights bring Day, Month and Leap back, 7 bring Weekday back, and 59 Moon; no fewer do.
func TestD3(t *testing.T) {
	for k, start := range row() {
		start = with(start, k%7, k%59)
		f, e := dial.Midnight(start, fourYears)
		if with(f, 0, 0) != with(start, 0, 0) || e != api.OK {
			t.Fatalf("Midnight(%v, 1461) = %v, %d", start, f, e)
		}
		if f, e = dial.Midnight(start, 7); f.Weekday != start.Weekday || e != api.OK {
			t.Fatalf("Midnight(%v, 7) = %v, %d", start, f, e)
		}
		if f, e = dial.Midnight(start, 59); f.Moon != start.Moon || e != api.OK {
			t.Fatalf("Midnight(%v, 59) = %v, %d", start, f, e)
		}
	}
	start := face(31, 12, 3, 6, 58)
	f := start
	for night := 1; night <= fourYears; night++ {
		f, _ = dial.Midnight(f, 1)
		if back := f.Weekday == 6; back != (night%7 == 0) {
			t.Errorf("Weekday %d after %d midnights", f.Weekday, night)
		}
		if back := f.Moon == 58; back != (night%59 == 0) {
			t.Errorf("Moon %d after %d midnights", f.Moon, night)
		}
		if back := with(f, 0, 0) == with(start, 0, 0); back != (night == fourYears) {
			t.Errorf("%v after %d midnights", f, night)
		}
	}
}

// TestD4: a midnights and then b midnights are a + b midnights.
func TestD4(t *testing.T) {
	r := rand.New(rand.NewSource(4))
	faces := row()
	for k := range 600 {
		most := []int{5, 100, 5000, api.MaxNights}[k%4]
		sum := r.Intn(most + 1)
		a := r.Intn(sum + 1)
		start := with(faces[r.Intn(fourYears)], r.Intn(7), r.Intn(59))
		f, e1 := dial.Midnight(start, a)
		f, e2 := dial.Midnight(f, sum-a)
		if g, e3 := dial.Midnight(start, sum); f != g || e1 != api.OK || e2 != api.OK || e3 != api.OK {
			t.Errorf("Midnight(%v) after %d and %d: %v, %v", start, a, sum-a, f, g)
		}
	}
}

func TestMidnightInvalid(t *testing.T) {
	for _, bad := range badFaces() {
		for _, nights := range []int{0, 1, api.MaxNights, -1} {
			f, e := dial.Midnight(bad, nights)
			fails(t, e, api.ErrArg, f == api.Face{}, "Midnight", bad, nights)
		}
	}
	for _, nights := range badNights() {
		f, e := dial.Midnight(face(1, 1, 0, 0, 0), nights)
		fails(t, e, api.ErrArg, f == api.Face{}, "Midnight", nights)
	}
}

func TestCorrectByHand(t *testing.T) {
	for _, c := range []struct {
		f    api.Face
		push int
		want api.Face
	}{
		{face(28, 2, 0, 6, 58), api.PushWeekday, face(28, 2, 0, 0, 58)},
		{face(28, 2, 0, 3, 58), api.PushWeekday, face(28, 2, 0, 4, 58)},
		{face(28, 2, 0, 6, 58), api.PushMoon, face(28, 2, 0, 6, 0)},
		{face(31, 12, 3, 6, 30), api.PushMoon, face(31, 12, 3, 6, 31)},
		{face(28, 2, 0, 6, 58), api.PushDay, face(29, 2, 0, 6, 58)},
		{face(28, 2, 1, 6, 58), api.PushDay, face(1, 3, 1, 6, 58)},
		{face(30, 9, 1, 0, 5), api.PushDay, face(1, 10, 1, 0, 5)},
		{face(31, 12, 0, 6, 58), api.PushDay, face(1, 1, 1, 6, 58)},
		{face(31, 12, 3, 6, 58), api.PushDay, face(1, 1, 0, 6, 58)},
		{face(5, 6, 2, 6, 58), api.PushMonth, face(5, 7, 2, 6, 58)},
		{face(31, 1, 0, 6, 58), api.PushMonth, face(29, 2, 0, 6, 58)},
		{face(30, 1, 0, 6, 58), api.PushMonth, face(29, 2, 0, 6, 58)},
		{face(29, 1, 0, 6, 58), api.PushMonth, face(29, 2, 0, 6, 58)},
		{face(29, 1, 1, 6, 58), api.PushMonth, face(28, 2, 1, 6, 58)},
		{face(31, 1, 3, 6, 58), api.PushMonth, face(28, 2, 3, 6, 58)},
		{face(28, 1, 2, 6, 58), api.PushMonth, face(28, 2, 2, 6, 58)},
		{face(29, 2, 0, 6, 58), api.PushMonth, face(29, 3, 0, 6, 58)},
		{face(31, 3, 1, 6, 58), api.PushMonth, face(30, 4, 1, 6, 58)},
		{face(31, 7, 1, 6, 58), api.PushMonth, face(31, 8, 1, 6, 58)},
		{face(31, 12, 1, 6, 58), api.PushMonth, face(31, 1, 2, 6, 58)},
		{face(4, 12, 3, 6, 58), api.PushMonth, face(4, 1, 0, 6, 58)},
	} {
		if f, e := dial.Correct(c.f, c.push); f != c.want || e != api.OK {
			t.Errorf("Correct(%v, %d) = %v, %d, not %v", c.f, c.push, f, e, c.want)
		}
	}
}

// TestCorrect goes through all valid faces.
func TestCorrect(t *testing.T) {
	faces := row()
	days := lengths(faces)
	for k, plain := range faces {
		for weekday := range 7 {
			for moon := range 59 {
				f := with(plain, weekday, moon)
				for corrector, want := range map[int]api.Face{
					api.PushDay:     with(faces[(k+1)%fourYears], weekday, moon),
					api.PushMonth:   afterMonths(f, 1, days),
					api.PushWeekday: with(plain, (weekday+1)%7, moon),
					api.PushMoon:    with(plain, weekday, (moon+1)%59),
				} {
					if g, e := dial.Correct(f, corrector); g != want || e != api.OK {
						t.Fatalf("Correct(%v, %d) = %v, %d, not %v", f, corrector, g, e, want)
					}
				}
			}
		}
	}
}

func TestCorrectInvalid(t *testing.T) {
	for _, bad := range badFaces() {
		for corrector := -1; corrector <= 5; corrector++ {
			f, e := dial.Correct(bad, corrector)
			fails(t, e, api.ErrArg, f == api.Face{}, "Correct", bad, corrector)
		}
	}
	for _, corrector := range append(far(), -4, -3, -2, -1, 0, 5, 6, 7, 8) {
		f, e := dial.Correct(face(1, 1, 0, 0, 0), corrector)
		fails(t, e, api.ErrArg, f == api.Face{}, "Correct", corrector)
	}
}

func TestShowsByHand(t *testing.T) {
	for _, c := range []struct {
		f    api.Face
		d    api.Date
		want bool
	}{
		{face(1, 1, 0, 6, 0), date(2000, 1, 1), true},
		{face(1, 1, 0, 6, 58), date(2000, 1, 1), true},
		{face(1, 1, 3, 6, 0), date(2000, 1, 1), true}, // Leap is not asked
		{face(28, 2, 1, 0, 4), date(2100, 2, 28), true},
		{face(2, 1, 0, 6, 0), date(2000, 1, 1), false},
		{face(1, 2, 0, 6, 0), date(2000, 1, 1), false},
		{face(1, 1, 0, 5, 0), date(2000, 1, 1), false},
		{face(1, 1, 0, 0, 0), date(2000, 1, 1), false},
		{face(29, 2, 0, 1, 0), date(2100, 3, 1), false},
		{face(1, 3, 0, 1, 0), date(2100, 3, 1), true},
		{face(31, 12, 0, 5, 0), date(9999, 12, 31), true},
		{face(1, 1, 2, 1, 0), date(1, 1, 1), true},
	} {
		if ok, e := dial.Shows(c.f, c.d); ok != c.want || e != api.OK {
			t.Errorf("Shows(%v, %v) = %t, %d", c.f, c.d, ok, e)
		}
	}
}

func TestShows(t *testing.T) {
	faces := row()
	for k, d := range dates() {
		for weekday := range 7 {
			for n := k % 7; n < fourYears; n += 7 {
				f := with(faces[n], weekday, n%59)
				want := f.Day == d.Day && f.Month == d.Month && weekday == int(noon(d).Weekday())
				if ok, e := dial.Shows(f, d); ok != want || e != api.OK {
					t.Fatalf("Shows(%v, %v) = %t, %d", f, d, ok, e)
				}
			}
		}
		for moon := range 59 {
			if ok, e := dial.Shows(faceOf(d, moon), d); !ok || e != api.OK {
				t.Fatalf("Shows(%v, %v) = %t, %d", faceOf(d, moon), d, ok, e)
			}
		}
	}
}

func TestShowsInvalid(t *testing.T) {
	for _, bad := range badFaces() {
		for _, d := range []api.Date{date(2000, 1, 1), date(2001, 2, 28), {}} {
			ok, e := dial.Shows(bad, d)
			fails(t, e, api.ErrArg, !ok, "Shows", bad, d)
		}
	}
	for _, bad := range badDates() {
		for _, f := range []api.Face{face(1, 1, 0, 6, 0), face(29, 2, 0, 1, 0), {}} {
			ok, e := dial.Shows(f, bad)
			fails(t, e, api.ErrArg, !ok, "Shows", f, bad)
		}
	}
}
