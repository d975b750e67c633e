package dial_test

import (
	"math/rand"
	"testing"

	"tourbillon/api"
	"tourbillon/dial"
)

func TestWrongByHand(t *testing.T) {
	for _, c := range []struct {
		d            api.Date
		nights, want int
	}{
		{date(2100, 2, 28), 3, 1},
		{date(2100, 2, 28), 1, 1},
		{date(2100, 2, 28), 0, -1},
		{date(2100, 2, 28), api.MaxNights, 1},
		{date(2100, 2, 27), 1, -1},
		{date(2100, 2, 27), 2, 2},
		{date(2100, 2, 1), 400, 28},
		{date(2100, 3, 1), 36523, -1},
		{date(2100, 3, 1), 36524, 36524}, // until 28 February 2200
		{date(1900, 2, 28), 1, 1},
		{date(1900, 2, 28), api.MaxNights, 1},
		{date(1900, 3, 1), 0, -1},
		{date(1900, 3, 1), 73048, -1},
		{date(1900, 3, 1), 73049, 73049},
		{date(1900, 3, 1), api.MaxNights, 73049},
		{date(2000, 2, 28), 2, -1},
		{date(2000, 2, 29), 1, -1},
		{date(2000, 2, 28), api.MaxNights, 36526},
		{date(2001, 2, 28), 2, -1},
		{date(1600, 2, 28), 2, -1},
		{date(1700, 2, 28), 2, 1},
		{date(400, 2, 28), 2, -1},
		{date(1, 1, 1), api.MaxNights, 36218}, // until 28 February 100
		{date(9999, 12, 31), 0, -1},
		{date(9999, 12, 30), 1, -1},
		{date(9900, 2, 28), 1000, 1},
		{date(9900, 3, 1), 36464, -1},             // until the last date
		{date(9726, 3, 17), api.MaxNights, 27012}, // MaxNights before the last date
	} {
		if n, e := dial.Wrong(c.d, c.nights); n != c.want || e != api.OK {
			t.Errorf("Wrong(%v, %d) = %d, %d, not %d", c.d, c.nights, n, e, c.want)
		}
	}
}

// walk returns by the other functions after how many midnights a face is wrong.
func walk(t *testing.T, d api.Date, nights int) int {
	t.Helper()
	number, e := dial.Number(d)
	if e != api.OK {
		t.Fatalf("Number(%v): %d", d, e)
	}
	f, _ := dial.Set(d, 0)
	for n := range nights + 1 {
		today, e1 := dial.Date(number + n)
		ok, e2 := dial.Shows(f, today)
		if e1 != api.OK || e2 != api.OK {
			t.Fatalf("%v after %d midnights: %d, %d", d, n, e1, e2)
		}
		if !ok {
			return n
		}
		f, _ = dial.Midnight(f, 1)
	}
	return -1
}

func TestWrong(t *testing.T) {
	for _, d := range dates() {
		nights := min(2000, minus(date(9999, 12, 31), d))
		for _, n := range []int{0, min(1, nights), min(60, nights), nights} {
			if x, e := dial.Wrong(d, n); x != walk(t, d, n) || e != api.OK {
				t.Errorf("Wrong(%v, %d) = %d, %d, not %d", d, n, x, e, walk(t, d, n))
			}
		}
	}
}

// TestD2 compares Wrong with the midnights that end a false 28 February.
func TestD2(t *testing.T) {
	r := rand.New(rand.NewSource(2))
	all := dates()
	for range 200 {
		all = append(all, plus(date(1, 1, 1), r.Intn(lastNumber+1)), plus(date(1895, 1, 1), r.Intn(80000)))
	}
	for _, d := range all {
		most := min(api.MaxNights, minus(date(9999, 12, 31), d))
		last := firstFalse(d, most)
		for _, nights := range []int{0, most, max(0, most-1), r.Intn(most + 1), max(0, last-1), max(0, last), min(most, max(0, last+1))} {
			if n, e := dial.Wrong(d, nights); n != firstFalse(d, nights) || e != api.OK {
				t.Errorf("Wrong(%v, %d) = %d, %d, not %d", d, nights, n, e, firstFalse(d, nights))
			}
		}
	}
}

// TestP4: from 1 March 1900 to 28 February 2100 the mechanism has the dates of arithmetic; one midnight later it is wrong.
func TestP4(t *testing.T) {
	first, last := date(1900, 3, 1), date(2100, 2, 28)
	all := minus(last, first)
	f, e := dial.Set(first, 0)
	if e != api.OK {
		t.Fatalf("Set: %d", e)
	}
	for n := 0; n <= all; n++ {
		d := plus(first, n)
		if ok, e := dial.Shows(f, d); !ok || e != api.OK || f != faceOf(d, n%59) {
			t.Fatalf("%v on %v: %t, %d", f, d, ok, e)
		}
		f, _ = dial.Midnight(f, 1)
	}
	if ok, e := dial.Shows(f, plus(last, 1)); ok || e != api.OK {
		t.Errorf("%v on 1 March 2100: %t, %d", f, ok, e)
	}
	for n := 0; n <= all; n += 97 {
		d := plus(first, n)
		if x, e := dial.Wrong(d, all-n); x != -1 || e != api.OK {
			t.Errorf("Wrong(%v, %d) = %d, %d", d, all-n, x, e)
		}
		if x, e := dial.Wrong(d, all-n+1); x != all-n+1 || e != api.OK {
			t.Errorf("Wrong(%v, %d) = %d, %d", d, all-n+1, x, e)
		}
	}
}

func TestWrongInvalid(t *testing.T) {
	for _, bad := range badDates() {
		for _, nights := range []int{0, 1, -1, api.MaxNights + 1} {
			n, e := dial.Wrong(bad, nights)
			fails(t, e, api.ErrArg, n == 0, "Wrong", bad, nights)
		}
	}
	for _, nights := range badNights() {
		for _, d := range []api.Date{date(2000, 1, 1), date(2100, 2, 28), date(1, 1, 1), date(9999, 12, 31)} {
			n, e := dial.Wrong(d, nights)
			fails(t, e, api.ErrArg, n == 0, "Wrong", d, nights)
		}
	}
	last := date(9999, 12, 31)
	for _, before := range []int{0, 1, 2, 100, 36523, 36524, 99999} {
		d := plus(last, -before)
		if _, e := dial.Wrong(d, before); e != api.OK {
			t.Errorf("Wrong(%v, %d): %d", d, before, e)
		}
		for _, nights := range []int{before + 1, api.MaxNights} {
			n, e := dial.Wrong(d, nights)
			fails(t, e, api.ErrArg, n == 0, "Wrong", d, nights)
		}
	}
	if n, e := dial.Wrong(plus(last, -api.MaxNights), api.MaxNights); n != 27012 || e != api.OK {
		t.Errorf("Wrong = %d, %d", n, e)
	}
}
