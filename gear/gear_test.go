package gear_test

import (
	"math"
	"math/big"
	"math/rand"
	"regexp"
	"strings"
	"testing"

	"tourbillon/api"
	"tourbillon/gear"
)

func TestMake(t *testing.T) {
	const m = api.MaxFrac
	for _, c := range []struct {
		num, den int
		want     api.Frac
		e        api.Errno
	}{
		{6, -8, fr(-3, 4), api.OK},
		{-6, -8, fr(3, 4), api.OK},
		{0, 5, fr(0, 1), api.OK},
		{0, -5, fr(0, 1), api.OK},
		{0, math.MinInt, fr(0, 1), api.OK},
		{0, math.MaxInt, fr(0, 1), api.OK},
		{1, 0, api.Frac{}, api.ErrZero},
		{0, 0, api.Frac{}, api.ErrZero},
		{math.MinInt, 0, api.Frac{}, api.ErrZero},
		{m, 1, fr(m, 1), api.OK},
		{-m, 1, fr(-m, 1), api.OK},
		{m, -1, fr(-m, 1), api.OK},
		{1, m, fr(1, m), api.OK},
		{1, -m, fr(-1, m), api.OK},
		{m, m, fr(1, 1), api.OK},
		{m, m - 1, fr(m, m-1), api.OK},
		{m + 1, 1, api.Frac{}, api.ErrRange},
		{-m - 1, 1, api.Frac{}, api.ErrRange},
		{1, m + 1, api.Frac{}, api.ErrRange},
		{1, -m - 1, api.Frac{}, api.ErrRange},
		{m + 2, 2, fr(m/2+1, 1), api.OK},
		{math.MinInt, 1, api.Frac{}, api.ErrRange},
		{math.MinInt, -1, api.Frac{}, api.ErrRange},
		{1, math.MinInt, api.Frac{}, api.ErrRange},
		{math.MinInt, 2, fr(-m, 1), api.OK},
		{math.MinInt, -2, fr(m, 1), api.OK},
		{2, math.MinInt, fr(-1, m), api.OK},
		{-2, math.MinInt, fr(1, m), api.OK},
		{math.MinInt, math.MinInt, fr(1, 1), api.OK},
		{math.MaxInt, math.MaxInt, fr(1, 1), api.OK},
		{-math.MaxInt, math.MaxInt, fr(-1, 1), api.OK},
		{math.MinInt, math.MaxInt, api.Frac{}, api.ErrRange},
		{math.MaxInt, math.MinInt, api.Frac{}, api.ErrRange},
		{math.MaxInt, 7, fr(math.MaxInt/7, 1), api.OK},
		{7, math.MaxInt, fr(1, math.MaxInt/7), api.OK},
		{math.MaxInt, 2, api.Frac{}, api.ErrRange},
	} {
		if x, e := gear.Make(c.num, c.den); x != c.want || e != c.e {
			t.Errorf("Make(%d, %d) = %v, %d", c.num, c.den, x, e)
		}
	}
	for num := -15; num <= 15; num++ {
		for den := -15; den <= 15; den++ {
			if den == 0 {
				continue
			}
			want, _ := fracOf(big.NewRat(int64(num), int64(den)))
			if x, e := gear.Make(num, den); x != want || e != api.OK {
				t.Errorf("Make(%d, %d) = %v, %d", num, den, x, e)
			}
		}
	}
}

func TestCheck(t *testing.T) {
	for _, x := range samples() {
		if e := gear.Check(x); e != api.OK {
			t.Errorf("Check(%v) = %d", x, e)
		}
	}
	for _, x := range malformed() {
		if e := gear.Check(x); e != api.ErrForm {
			t.Errorf("Check(%v) = %d", x, e)
		}
	}
	for num := -13; num <= 13; num++ {
		for den := -13; den <= 13; den++ {
			want := api.ErrForm
			if den > 0 && big.NewRat(int64(num), int64(den)).Denom().Int64() == int64(den) {
				want = api.OK
			}
			if e := gear.Check(fr(num, den)); e != want {
				t.Errorf("Check(%d/%d) = %d", num, den, e)
			}
		}
	}
}

type operation struct {
	name  string
	ours  func(a, b api.Frac) (api.Frac, api.Errno)
	exact func(z, a, b *big.Rat) *big.Rat
}

func operations() []operation {
	return []operation{
		{"Add", gear.Add, (*big.Rat).Add},
		{"Sub", gear.Sub, (*big.Rat).Sub},
		{"Mul", gear.Mul, (*big.Rat).Mul},
		{"Div", gear.Div, (*big.Rat).Quo},
	}
}

func checkOperations(t *testing.T, a, b api.Frac) {
	t.Helper()
	for _, o := range operations() {
		want, wantE := api.Frac{}, api.ErrZero
		if o.name != "Div" || b.Num != 0 {
			want, wantE = fracOf(o.exact(new(big.Rat), bigOf(a), bigOf(b)))
		}
		if x, e := o.ours(a, b); x != want || e != wantE {
			t.Errorf("%s(%v, %v) = %v, %d, not %v, %d", o.name, a, b, x, e, want, wantE)
		}
	}
	if c, e := gear.Cmp(a, b); e != api.OK || c != bigOf(a).Cmp(bigOf(b)) {
		t.Errorf("Cmp(%v, %v) = %d, %d", a, b, c, e)
	}
}

func TestArithmetic(t *testing.T) {
	for _, a := range samples() {
		for _, b := range samples() {
			checkOperations(t, a, b)
		}
	}
	for num := -6; num <= 6; num++ {
		for den := 1; den <= 6; den++ {
			for other := -6; other <= 6; other++ {
				a, _ := fracOf(big.NewRat(int64(num), int64(den)))
				b, _ := fracOf(big.NewRat(int64(other), 4))
				checkOperations(t, a, b)
			}
		}
	}
	r := rand.New(rand.NewSource(1))
	for range 20000 {
		checkOperations(t, random(r, 61), random(r, 61))
	}
}

func TestArithmeticByHand(t *testing.T) {
	const m = api.MaxFrac
	for _, c := range []struct {
		name       string
		a, b, want api.Frac
		e          api.Errno
	}{
		{"Add", fr(1, 2), fr(1, 3), fr(5, 6), api.OK},
		{"Add", fr(m, 1), fr(-m, 1), fr(0, 1), api.OK},
		{"Add", fr(m, 1), fr(1, 1), api.Frac{}, api.ErrRange},
		{"Add", fr(m-1, m), fr(1, m), fr(1, 1), api.OK},
		{"Add", fr(m-1, m), fr(m-1, m), fr(m-1, m/2), api.OK},
		{"Add", fr(1, m), fr(1, m-1), api.Frac{}, api.ErrRange},
		{"Sub", fr(1, 2), fr(1, 3), fr(1, 6), api.OK},
		{"Sub", fr(-m, 1), fr(-m, 1), fr(0, 1), api.OK},
		{"Sub", fr(-m, 1), fr(1, 1), api.Frac{}, api.ErrRange},
		{"Sub", fr(m-1, m), fr(-1, m), fr(1, 1), api.OK},
		{"Mul", fr(2, 3), fr(-3, 4), fr(-1, 2), api.OK},
		{"Mul", fr(m, m-1), fr(m-1, m), fr(1, 1), api.OK},
		{"Mul", fr(m, 3), fr(3, m), fr(1, 1), api.OK},
		{"Mul", fr(m, 1), fr(2, 1), api.Frac{}, api.ErrRange},
		{"Mul", fr(1, m), fr(1, 2), api.Frac{}, api.ErrRange},
		{"Mul", fr(0, 1), fr(-1, m), fr(0, 1), api.OK},
		{"Div", fr(1, 2), fr(-3, 4), fr(-2, 3), api.OK},
		{"Div", fr(0, 1), fr(-3, 4), fr(0, 1), api.OK},
		{"Div", fr(m, 1), fr(m, 1), fr(1, 1), api.OK},
		{"Div", fr(1, m), fr(-1, m), fr(-1, 1), api.OK},
		{"Div", fr(m, 1), fr(1, 2), api.Frac{}, api.ErrRange},
		{"Div", fr(1, 2), fr(0, 1), api.Frac{}, api.ErrZero},
		{"Div", fr(0, 1), fr(0, 1), api.Frac{}, api.ErrZero},
	} {
		for _, o := range operations() {
			if o.name != c.name {
				continue
			}
			if x, e := o.ours(c.a, c.b); x != c.want || e != c.e {
				t.Errorf("%s(%v, %v) = %v, %d", c.name, c.a, c.b, x, e)
			}
		}
	}
}

// TestMalformed: every function says ErrForm of a malformed fraction, before any other error, and nothing else.
func TestMalformed(t *testing.T) {
	limits := api.Teeth{WheelLow: 60, WheelHigh: 80, PinionLow: 6, PinionHigh: 10, Stages: 2}
	for _, bad := range malformed() {
		for _, good := range []api.Frac{fr(0, 1), fr(1, 2), fr(-5, 3), fr(api.MaxFrac, 1)} {
			for _, pair := range [][2]api.Frac{{good, bad}, {bad, good}, {bad, bad}} {
				for _, o := range operations() {
					if x, e := o.ours(pair[0], pair[1]); x != (api.Frac{}) || e != api.ErrForm {
						t.Errorf("%s(%v) = %v, %d", o.name, pair, x, e)
					}
				}
				if c, e := gear.Cmp(pair[0], pair[1]); c != 0 || e != api.ErrForm {
					t.Errorf("Cmp(%v) = %d, %d", pair, c, e)
				}
				if x, e := gear.Between(pair[0], pair[1]); x != (api.Frac{}) || e != api.ErrForm {
					t.Errorf("Between(%v) = %v, %d", pair, x, e)
				}
			}
		}
		if n, e := gear.Floor(bad); n != 0 || e != api.ErrForm {
			t.Errorf("Floor(%v) = %d, %d", bad, n, e)
		}
		if s, e := gear.Text(bad); s != "" || e != api.ErrForm {
			t.Errorf("Text(%v) = %q, %d", bad, s, e)
		}
		for _, most := range []int{0, 1, 7, api.MaxFrac} {
			if x, e := gear.Nearest(bad, most); x != (api.Frac{}) || e != api.ErrForm {
				t.Errorf("Nearest(%v, %d) = %v, %d", bad, most, x, e)
			}
		}
		for _, l := range []api.Teeth{{}, limits} {
			if x, e := gear.Exact(bad, l); !isZero(x) || e != api.ErrForm {
				t.Errorf("Exact(%v, %v) = %v, %d", bad, l, x, e)
			}
			if x, off, e := gear.Closest(bad, l); !isZero(x) || off != (api.Frac{}) || e != api.ErrForm {
				t.Errorf("Closest(%v, %v) = %v, %v, %d", bad, l, x, off, e)
			}
		}
	}
}

// smallSamples returns fractions of which most sums and products are valid.
func smallSamples() []api.Frac {
	const m = api.MaxFrac
	all := []api.Frac{fr(m, 1), fr(-m, 1), fr(1, m), fr(m-1, m), fr(1<<31, 3), fr(-5, 1<<31)}
	for num := -4; num <= 4; num++ {
		for den := 1; den <= 4; den++ {
			if x := fr(num, den); gear.Check(x) == api.OK {
				all = append(all, x)
			}
		}
	}
	return all
}

// TestField is G1.
func TestField(t *testing.T) {
	count := 0
	for _, a := range smallSamples() {
		for _, b := range smallSamples() {
			checkUndone(t, a, b)
			for _, c := range smallSamples() {
				count += checkLaws(t, a, b, c)
			}
		}
	}
	if count < 1000 {
		t.Errorf("only %d cases", count)
	}
}

// result is a fraction that may be missing because of an error.
type result struct {
	x api.Frac
	e api.Errno
}

func (r result) with(f func(a, b api.Frac) (api.Frac, api.Errno), s result) result {
	if r.e != api.OK {
		return r
	}
	if s.e != api.OK {
		return s
	}
	x, e := f(r.x, s.x)
	return result{x, e}
}

func checkLaws(t *testing.T, a, b, c api.Frac) int {
	x, y, z := result{a, api.OK}, result{b, api.OK}, result{c, api.OK}
	count := 0
	for _, law := range [][2]result{
		{x.with(gear.Add, y), y.with(gear.Add, x)},
		{x.with(gear.Mul, y), y.with(gear.Mul, x)},
		{x.with(gear.Add, y).with(gear.Add, z), x.with(gear.Add, y.with(gear.Add, z))},
		{x.with(gear.Mul, y).with(gear.Mul, z), x.with(gear.Mul, y.with(gear.Mul, z))},
		{x.with(gear.Mul, y.with(gear.Add, z)), x.with(gear.Mul, y).with(gear.Add, x.with(gear.Mul, z))},
	} {
		if law[0].e != api.OK || law[1].e != api.OK {
			continue
		}
		count++
		if law[0].x != law[1].x {
			t.Errorf("%v, %v, %v: %v and %v", a, b, c, law[0].x, law[1].x)
		}
	}
	before, _ := gear.Cmp(a, b)
	left, right := x.with(gear.Add, z), y.with(gear.Add, z)
	if left.e == api.OK && right.e == api.OK {
		if after, e := gear.Cmp(left.x, right.x); e != api.OK || after != before {
			t.Errorf("Cmp(%v, %v) = %d, with %v more %d", a, b, before, c, after)
		}
	}
	next, _ := gear.Cmp(b, c)
	if last, _ := gear.Cmp(a, c); before <= 0 && next <= 0 && (last > 0 || last == 0 && before+next < 0) {
		t.Errorf("Cmp(%v, %v) = %d, but %v is between them", a, c, last, b)
	}
	return count
}

func checkUndone(t *testing.T, a, b api.Frac) {
	x, y := result{a, api.OK}, result{b, api.OK}
	if back := x.with(gear.Add, y).with(gear.Sub, y); back.e == api.OK && back.x != a {
		t.Errorf("%v + %v - %v = %v", a, b, b, back.x)
	}
	if back := x.with(gear.Mul, y).with(gear.Div, y); back.e == api.OK && back.x != a {
		t.Errorf("%v * %v / %v = %v", a, b, b, back.x)
	}
	there, _ := gear.Cmp(a, b)
	back, _ := gear.Cmp(b, a)
	if there != -back || (there == 0) != (a == b) {
		t.Errorf("Cmp(%v, %v) = %d, the other way %d", a, b, there, back)
	}
}

func TestFloor(t *testing.T) {
	const m = api.MaxFrac
	for _, c := range []struct {
		x    api.Frac
		want int
	}{
		{fr(-1, 2), -1}, {fr(1, 2), 0}, {fr(0, 1), 0}, {fr(5, 1), 5}, {fr(-5, 1), -5}, {fr(-7, 2), -4}, {fr(7, 2), 3},
		{fr(m, 1), m}, {fr(-m, 1), -m}, {fr(-1, m), -1}, {fr(1, m), 0}, {fr(-m, m-1), -2}, {fr(m, m-1), 1}, {fr(m-1, m), 0}, {fr(1-m, m), -1},
	} {
		if n, e := gear.Floor(c.x); n != c.want || e != api.OK {
			t.Errorf("Floor(%v) = %d, %d", c.x, n, e)
		}
	}
	for _, x := range samples() {
		// Euclidean division by a positive number rounds down.
		want := new(big.Int).Div(bigOf(x).Num(), bigOf(x).Denom())
		if n, e := gear.Floor(x); int64(n) != want.Int64() || e != api.OK {
			t.Errorf("Floor(%v) = %d, %d", x, n, e)
		}
	}
}

func TestText(t *testing.T) {
	for _, c := range []struct {
		x    api.Frac
		want string
	}{
		{fr(-3, 4), "-3/4"}, {fr(5, 1), "5"}, {fr(-5, 1), "-5"}, {fr(0, 1), "0"}, {fr(1, 10), "1/10"},
		{fr(api.MaxFrac, 1), "4611686018427387904"}, {fr(-api.MaxFrac, 1), "-4611686018427387904"},
		{fr(-1, api.MaxFrac), "-1/4611686018427387904"},
		{fr(-api.MaxFrac, api.MaxFrac-1), "-4611686018427387904/4611686018427387903"},
	} {
		if s, e := gear.Text(c.x); s != c.want || e != api.OK {
			t.Errorf("Text(%v) = %q, %d", c.x, s, e)
		}
	}
}

// TestParseText is G6.
func TestParseText(t *testing.T) {
	all := samples()
	r := rand.New(rand.NewSource(2))
	for range 2000 {
		all = append(all, random(r, 61))
	}
	for _, x := range all {
		s := mustText(x)
		if back, e := gear.Parse(s); back != x || e != api.OK {
			t.Errorf("Parse(%q) = %v, %d", s, back, e)
		}
	}
}

func TestParseMalformed(t *testing.T) {
	for _, s := range []string{
		"", "-", "/", "-/", "1/", "/2", "-/2", "--1", "+1", "+1/2", "-0", "00", "01", "-01", "0/1", "0/2", "-0/1", "5/1", "-5/1", "1/1", "2/4", "-2/4", "1/-2", "-1/-2", "1/+2", "1/02", "1/0", "0/0", "1/00",
		" 1", "1 ", "1 /2", "1/ 2", "1\n", "1/2\n", "1/2/3", "1//2", "1.5", "1e3", "0x10", "1_000", "x", "1x", "١", "1/2\x00", "\xff", "½", "−1",
		"4611686018427387905", "-4611686018427387905", "1/4611686018427387905", "9223372036854775807", "-9223372036854775808", "9223372036854775808", "1/9223372036854775808",
		"18446744073709551617", "1/18446744073709551618", "36893488147419103233", "1/36893488147419103234", strings.Repeat("9", 1000), "1/" + strings.Repeat("3", 1000), "-" + strings.Repeat("0", 1000) + "1",
	} {
		if x, e := gear.Parse(s); x != (api.Frac{}) || e != api.ErrForm {
			t.Errorf("Parse(%q) = %v, %d", s, x, e)
		}
	}
}

// TestParseAll tries all short strings of the bytes that matter.
func TestParseAll(t *testing.T) {
	form := regexp.MustCompile(`^(0|-?[1-9][0-9]*)(/[1-9][0-9]*)?$`)
	texts := []string{""}
	for range 5 {
		var longer []string
		for _, s := range texts {
			for _, b := range []string{"0", "1", "2", "6", "-", "/", "+"} {
				longer = append(longer, s+b)
			}
		}
		for _, s := range longer {
			want, wantE := api.Frac{}, api.ErrForm
			if form.MatchString(s) {
				exact, _ := new(big.Rat).SetString(s)
				if exact.RatString() == s {
					want, wantE = fracOf(exact)
				}
			}
			if x, e := gear.Parse(s); x != want || e != wantE {
				t.Errorf("Parse(%q) = %v, %d", s, x, e)
			}
		}
		texts = longer
	}
}
