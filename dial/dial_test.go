package dial_test

import (
	"math/rand"
	"testing"

	"tourbillon/api"
	"tourbillon/dial"
)

func TestDatesByHand(t *testing.T) {
	for _, c := range []struct {
		d               api.Date
		number, weekday int
	}{
		{date(1, 1, 1), 0, 1},
		{date(1, 1, 2), 1, 2},
		{date(1, 12, 31), 364, 1},
		{date(2, 1, 1), 365, 2},
		{date(4, 2, 29), 1154, 0},
		{date(1582, 10, 15), 577735, 5},
		{date(1900, 2, 28), 693653, 3},
		{date(1900, 3, 1), 693654, 4},
		{date(1970, 1, 1), 719162, 4},
		{date(1999, 12, 31), 730118, 5},
		{date(2000, 1, 1), 730119, 6},
		{date(2000, 2, 29), 730178, 2},
		{date(2100, 2, 28), 766702, 0},
		{date(2100, 3, 1), 766703, 1},
		{date(9999, 12, 31), lastNumber, 5},
	} {
		if n, e := dial.Number(c.d); n != c.number || e != api.OK {
			t.Errorf("Number(%v) = %d, %d, not %d", c.d, n, e, c.number)
		}
		if d, e := dial.Date(c.number); d != c.d || e != api.OK {
			t.Errorf("Date(%d) = %v, %d, not %v", c.number, d, e, c.d)
		}
		if w, e := dial.Weekday(c.d); w != c.weekday || e != api.OK {
			t.Errorf("Weekday(%v) = %d, %d, not %d", c.d, w, e, c.weekday)
		}
	}
}

// TestD1 goes through all dates, from the first to the last one.
func TestD1(t *testing.T) {
	number, weekday := 0, 1
	for year := 1; year <= api.MaxYear; year++ {
		for month := 1; month <= 12; month++ {
			for day := 1; day <= lengthOf(year, month); day++ {
				d := date(year, month, day)
				if n, e := dial.Number(d); n != number || e != api.OK {
					t.Fatalf("Number(%v) = %d, %d, not %d", d, n, e, number)
				}
				if x, e := dial.Date(number); x != d || e != api.OK {
					t.Fatalf("Date(%d) = %v, %d, not %v", number, x, e, d)
				}
				if w, e := dial.Weekday(d); w != weekday || e != api.OK {
					t.Fatalf("Weekday(%v) = %d, %d, not %d", d, w, e, weekday)
				}
				number++
				weekday = (weekday + 1) % 7
			}
		}
	}
	if number != lastNumber+1 {
		t.Errorf("%d dates", number)
	}
}

func TestDatesOfTime(t *testing.T) {
	r := rand.New(rand.NewSource(1))
	first := date(1, 1, 1)
	all := dates()
	for range 2000 {
		all = append(all, plus(first, r.Intn(lastNumber+1)))
	}
	for _, d := range all {
		if n, e := dial.Number(d); n != minus(d, first) || e != api.OK {
			t.Errorf("Number(%v) = %d, %d, not %d", d, n, e, minus(d, first))
		}
		if w, e := dial.Weekday(d); w != int(noon(d).Weekday()) || e != api.OK {
			t.Errorf("Weekday(%v) = %d, %d, not %v", d, w, e, noon(d).Weekday())
		}
	}
}

func TestLength(t *testing.T) {
	for _, c := range [][3]int{
		{2001, 1, 31}, {2001, 2, 28}, {2001, 3, 31}, {2001, 4, 30}, {2001, 5, 31}, {2001, 6, 30}, {2001, 7, 31}, {2001, 8, 31}, {2001, 9, 30}, {2001, 10, 31}, {2001, 11, 30}, {2001, 12, 31},
		{2000, 1, 31}, {2000, 2, 29}, {2000, 3, 31}, {2000, 12, 31},
		{1, 2, 28}, {4, 2, 29}, {100, 2, 28}, {400, 2, 29}, {1600, 2, 29}, {1700, 2, 28}, {1896, 2, 29}, {1900, 2, 28}, {1904, 2, 29}, {2002, 2, 28}, {2003, 2, 28}, {2004, 2, 29}, {2100, 2, 28}, {2400, 2, 29}, {9996, 2, 29}, {9999, 2, 28}, {9999, 12, 31},
	} {
		if n, e := dial.Length(c[0], c[1]); n != c[2] || e != api.OK {
			t.Errorf("Length(%d, %d) = %d, %d, not %d", c[0], c[1], n, e, c[2])
		}
	}
	for year := 1; year <= api.MaxYear; year++ {
		for month := 1; month <= 12; month++ {
			if n, e := dial.Length(year, month); n != lengthOf(year, month) || e != api.OK {
				t.Errorf("Length(%d, %d) = %d, %d", year, month, n, e)
			}
		}
	}
}

func TestDatesInvalid(t *testing.T) {
	for _, d := range badDates() {
		n, e := dial.Number(d)
		fails(t, e, api.ErrArg, n == 0, "Number", d)
		w, e := dial.Weekday(d)
		fails(t, e, api.ErrArg, w == 0, "Weekday", d)
	}
	for _, number := range append(far(), -1, -2, lastNumber+1, lastNumber+2, -lastNumber) {
		d, e := dial.Date(number)
		fails(t, e, api.ErrArg, d == api.Date{}, "Date", number)
	}
	for _, p := range badMonths() {
		n, e := dial.Length(p[0], p[1])
		fails(t, e, api.ErrArg, n == 0, "Length", p)
	}
}
