package fit_test

import (
	"math"
	"math/big"
	"math/rand"
	"slices"
	"testing"

	"tourbillon/api"
	"tourbillon/fit"
	"tourbillon/gear"
)

const (
	m = api.MaxSize
	w = api.MaxWidth
)

func TestStack(t *testing.T) {
	for _, c := range []struct {
		parts []api.Part
		want  api.Span
	}{
		{[]api.Part{part(0, 2), minus(1, 4)}, span(-4, 1)},
		{[]api.Part{part(3, 3)}, span(3, 3)},
		{[]api.Part{minus(3, 3)}, span(-3, -3)},
		{[]api.Part{minus(-5, 7)}, span(-7, 5)},
		{[]api.Part{part(0, 0)}, span(0, 0)},
		{[]api.Part{part(m-w, m)}, span(m-w, m)},
		{[]api.Part{part(-m, w-m)}, span(-m, w-m)},
		{[]api.Part{minus(m-w, m)}, span(-m, w-m)},
		{times(api.MaxParts, part(m-w, m)), span(8*(m-w), 8*m)},
		{times(api.MaxParts, minus(m-w, m)), span(-8*m, -8*(m-w))},
		{times(api.MaxParts, part(-m, -m)), span(-8*m, -8*m)},
		{append(times(7, minus(-m, w-m)), part(m, m)), span(8*m-7*w, 8*m)},
	} {
		if s, e := fit.Stack(c.parts); s != c.want || e != api.OK {
			t.Errorf("Stack(%v) = %v, %d", c.parts, s, e)
		}
	}
	r := rand.New(rand.NewSource(1))
	for range 2000 {
		parts := randomStack(r, 4, 4)
		gaps := gapsOf(parts)
		if s, e := fit.Stack(parts); s != span(slices.Min(gaps), slices.Max(gaps)) || e != api.OK {
			t.Errorf("Stack(%v) = %v, %d", parts, s, e)
		}
	}
}

// checkNeed compares all functions of a stack and a need with what the gaps of all choices say.
func checkNeed(t *testing.T, parts []api.Part, gaps []int, need api.Span) {
	t.Helper()
	good := counted(gaps, need)
	if ok, e := fit.Always(parts, need); ok != (good == len(gaps)) || e != api.OK {
		t.Errorf("Always(%v, %v) = %t, %d", parts, need, ok, e)
	}
	if ok, e := fit.Ever(parts, need); ok != (good > 0) || e != api.OK {
		t.Errorf("Ever(%v, %v) = %t, %d", parts, need, ok, e)
	}
	if n, all, e := fit.Count(parts, need); n != good || all != len(gaps) || e != api.OK {
		t.Errorf("Count(%v, %v) = %d, %d, %d, not %d, %d", parts, need, n, all, e, good, len(gaps))
	}
	want, _ := gear.Make(good, len(gaps))
	if x, e := fit.Yield(parts, need); x != want || e != api.OK {
		t.Errorf("Yield(%v, %v) = %v, %d, not %v", parts, need, x, e, want)
	}
}

func TestNeeds(t *testing.T) {
	for _, parts := range [][]api.Part{
		{part(0, 2), minus(1, 4)}, {part(5, 5)}, {minus(-3, 2)}, {part(0, 1), part(0, 1), part(0, 1)}, {part(-2, 3), minus(-1, -1), part(1, 2)},
		times(8, part(0, 1)), {part(m-3, m)}, {part(-m, 2-m), minus(0, 1)}, {part(m-1, m), minus(m-2, m)},
	} {
		gaps := gapsOf(parts)
		low, high := slices.Min(gaps), slices.Max(gaps)
		for a := low - 2; a <= high+2; a++ {
			for b := a; b <= high+2; b++ {
				if -m <= a && b <= m {
					checkNeed(t, parts, gaps, span(a, b))
				}
			}
		}
		checkNeed(t, parts, gaps, span(-m, m))
		checkNeed(t, parts, gaps, span(m, m))
		checkNeed(t, parts, gaps, span(-m, -m))
	}
	r := rand.New(rand.NewSource(2))
	for range 3000 {
		parts := randomStack(r, 4, 5)
		checkNeed(t, parts, gapsOf(parts), randomSpan(r, -30, 30))
	}
}

func TestNeedsByHand(t *testing.T) {
	for _, c := range []struct {
		parts        []api.Part
		need         api.Span
		always, ever bool
		good, all    int
		yield        api.Frac
	}{
		{[]api.Part{part(0, 2), minus(1, 4)}, span(0, 0), false, true, 2, 12, api.Frac{Num: 1, Den: 6}},
		{[]api.Part{part(0, 2), minus(1, 4)}, span(-4, 1), true, true, 12, 12, api.Frac{Num: 1, Den: 1}},
		{[]api.Part{part(0, 2), minus(1, 4)}, span(-4, 0), false, true, 11, 12, api.Frac{Num: 11, Den: 12}},
		{[]api.Part{part(0, 2), minus(1, 4)}, span(-3, 1), false, true, 11, 12, api.Frac{Num: 11, Den: 12}},
		{[]api.Part{part(0, 2), minus(1, 4)}, span(2, 9), false, false, 0, 12, api.Frac{Num: 0, Den: 1}},
		{[]api.Part{part(0, 2), minus(1, 4)}, span(-9, -5), false, false, 0, 12, api.Frac{Num: 0, Den: 1}},
		{[]api.Part{part(7, 7)}, span(7, 7), true, true, 1, 1, api.Frac{Num: 1, Den: 1}},
		{[]api.Part{part(7, 7)}, span(8, 8), false, false, 0, 1, api.Frac{Num: 0, Den: 1}},
		{[]api.Part{part(0, w)}, span(0, w-1), false, true, 100, 101, api.Frac{Num: 100, Den: 101}},
		{[]api.Part{part(m, m), part(m, m)}, span(-m, m), false, false, 0, 1, api.Frac{Num: 0, Den: 1}},
		{[]api.Part{part(m-w, m), minus(m-w, m)}, span(-w, w), true, true, 10201, 10201, api.Frac{Num: 1, Den: 1}},
		{[]api.Part{part(m-w, m), minus(m-w, m)}, span(w, m), false, true, 1, 10201, api.Frac{Num: 1, Den: 10201}},
		{times(8, part(0, 0)), span(0, 0), true, true, 1, 1, api.Frac{Num: 1, Den: 1}},
	} {
		if ok, e := fit.Always(c.parts, c.need); ok != c.always || e != api.OK {
			t.Errorf("Always(%v, %v) = %t, %d", c.parts, c.need, ok, e)
		}
		if ok, e := fit.Ever(c.parts, c.need); ok != c.ever || e != api.OK {
			t.Errorf("Ever(%v, %v) = %t, %d", c.parts, c.need, ok, e)
		}
		if n, all, e := fit.Count(c.parts, c.need); n != c.good || all != c.all || e != api.OK {
			t.Errorf("Count(%v, %v) = %d, %d, %d", c.parts, c.need, n, all, e)
		}
		if x, e := fit.Yield(c.parts, c.need); x != c.yield || e != api.OK {
			t.Errorf("Yield(%v, %v) = %v, %d", c.parts, c.need, x, e)
		}
	}
}

// waysOf returns how many choices have each gap, from the least gap on, by multiplying polynomials.
func waysOf(parts []api.Part) []*big.Int {
	ways := []*big.Int{big.NewInt(1)}
	for _, p := range parts {
		width := p.Size.High - p.Size.Low
		longer := make([]*big.Int, len(ways)+width)
		for i := range longer {
			longer[i] = new(big.Int)
		}
		for i, n := range ways {
			for step := 0; step <= width; step++ {
				longer[i+step].Add(longer[i+step], n)
			}
		}
		ways = longer
	}
	return ways
}

// checkGreat compares Count and Yield of a great stack with waysOf.
func checkGreat(t *testing.T, parts []api.Part, need api.Span) {
	t.Helper()
	ways := waysOf(parts)
	stack, _ := fit.Stack(parts)
	good, all := new(big.Int), new(big.Int)
	for i, n := range ways {
		all.Add(all, n)
		if gap := stack.Low + i; need.Low <= gap && gap <= need.High {
			good.Add(good, n)
		}
	}
	n, total, e := fit.Count(parts, need)
	if int64(n) != good.Int64() || int64(total) != all.Int64() || e != api.OK {
		t.Errorf("Count(%v, %v) = %d, %d, %d, not %v, %v", parts, need, n, total, e, good, all)
	}
	want := new(big.Rat).SetFrac(good, all)
	if x, e := fit.Yield(parts, need); big.NewInt(int64(x.Num)).Cmp(want.Num()) != 0 || big.NewInt(int64(x.Den)).Cmp(want.Denom()) != 0 || e != api.OK {
		t.Errorf("Yield(%v, %v) = %v, %d, not %v", parts, need, x, e, want)
	}
}

func TestGreatStacks(t *testing.T) {
	widest := times(api.MaxParts, part(0, w))
	for _, need := range []api.Span{span(0, 8*w), span(0, 8*w-1), span(1, 8*w), span(0, 4*w), span(4*w, 4*w), span(0, 0), span(8*w, 8*w), span(-m, -1), span(8*w+1, m), span(123, 456)} {
		checkGreat(t, widest, need)
	}
	if n, all, e := fit.Count(widest, span(0, 8*w)); n != 10828567056280801 || all != n || e != api.OK { // 101^8
		t.Errorf("Count = %d, %d, %d", n, all, e)
	}
	mixed := []api.Part{part(m-w, m), minus(m-w, m), part(-m, w-m), minus(-m, w-m), part(5, 5), minus(0, 99), part(-50, 50), minus(-1, 0)}
	for _, need := range []api.Span{span(-m, m), span(0, 0), span(-200, 17), span(50, 300)} {
		checkGreat(t, mixed, need)
	}
	r := rand.New(rand.NewSource(3))
	for range 200 {
		checkGreat(t, randomStack(r, api.MaxParts, w), randomSpan(r, -300, 300))
	}
}

// TestWorstCase is F1: Always is true exactly if the stack's span lies in need; then the yield is 1.
func TestWorstCase(t *testing.T) {
	r := rand.New(rand.NewSource(4))
	seen := map[bool]int{}
	for range 3000 {
		parts := randomStack(r, 3, 6)
		need := randomSpan(r, -30, 30)
		stack, _ := fit.Stack(parts)
		if r.Intn(2) == 0 {
			need = span(stack.Low+r.Intn(3)-1, stack.High+r.Intn(3)+1)
		}
		ok, e := fit.Always(parts, need)
		if ok != (need.Low <= stack.Low && stack.High <= need.High) || e != api.OK {
			t.Errorf("Always(%v, %v) = %t, %d", parts, need, ok, e)
		}
		yield, e := fit.Yield(parts, need)
		if (yield == api.Frac{Num: 1, Den: 1}) != ok || e != api.OK {
			t.Errorf("Yield(%v, %v) = %v, %d", parts, need, yield, e)
		}
		seen[ok]++
	}
	if seen[true] < 100 || seen[false] < 100 {
		t.Errorf("too few of a kind: %v", seen)
	}
}

// TestCounts is F2: the number of choices is the product of all widths plus 1, and what is counted for adjacent needs adds up.
func TestCounts(t *testing.T) {
	r := rand.New(rand.NewSource(5))
	for range 300 {
		parts := randomStack(r, api.MaxParts, w)
		product := 1
		for _, p := range parts {
			product *= p.Size.High - p.Size.Low + 1
		}
		need := randomSpan(r, -400, 400)
		whole, all, e := fit.Count(parts, need)
		if all != product || e != api.OK {
			t.Errorf("Count(%v, %v) = %d, %d, %d", parts, need, whole, all, e)
		}
		middle := need.Low + r.Intn(need.High-need.Low+1)
		if middle == need.High {
			continue
		}
		below, _, _ := fit.Count(parts, span(need.Low, middle))
		above, _, _ := fit.Count(parts, span(middle+1, need.High))
		if below+above != whole {
			t.Errorf("Count(%v, %v) is %d, in two parts %d and %d", parts, need, whole, below, above)
		}
	}
}

func TestNarrowByHand(t *testing.T) {
	for _, c := range []struct {
		parts []api.Part
		need  api.Span
		want  int
		e     api.Errno
	}{
		{[]api.Part{part(0, 2), part(0, 2)}, span(0, 3), 0, api.OK},                                // both are as good
		{[]api.Part{part(3, 3), part(0, 2), part(0, 2)}, span(0, 5), 1, api.OK},                    // the first one has no width
		{[]api.Part{part(0, 5), part(0, 1)}, span(0, 2), 0, api.OK},                                // 5 of 10, as good as 3 of 6
		{[]api.Part{part(0, 5), part(0, 2)}, span(0, 2), 1, api.OK},                                // 6 of 15, less than 5 of 12
		{[]api.Part{part(0, 2), part(0, 5)}, span(0, 2), 0, api.OK},                                // the same the other way
		{[]api.Part{part(0, 1), minus(0, 1)}, span(0, 9), 1, api.OK},                               // 0-0, 1-0, of 0-1 only the first part's Low would help
		{[]api.Part{minus(0, 1), part(0, 1)}, span(0, 9), 0, api.OK},                               // the same the other way
		{[]api.Part{minus(0, 1), part(0, 1)}, span(-9, 0), 1, api.OK},                              // 0, 1 of 0 and minus 0, 1
		{[]api.Part{part(0, 3), part(0, 2)}, span(50, 60), 0, api.OK},                              // nothing helps: the first one
		{[]api.Part{part(7, 7), part(0, 3), part(0, 2)}, span(50, 60), 1, api.OK},                  // the first one of a width
		{[]api.Part{part(0, 1)}, span(1, 1), 0, api.OK},                                            // it would make it worse, but there is no other one
		{[]api.Part{part(0, 1), part(4, 4)}, span(0, 0), 0, api.OK},                                // likewise
		{[]api.Part{part(0, 2), part(0, 2)}, span(0, 4), 0, api.ErrNone},                           // all choices fit
		{[]api.Part{part(0, 2), part(0, 2)}, span(-m, m), 0, api.ErrNone},                          // likewise
		{[]api.Part{part(3, 3), minus(5, 5)}, span(0, 0), 0, api.ErrNone},                          // nothing to be made with more care
		{[]api.Part{part(3, 3), minus(5, 5)}, span(-2, -2), 0, api.ErrNone},                        // both reasons
		{times(8, part(m, m)), span(0, 0), 0, api.ErrNone},                                         // no widths
		{times(8, part(0, w)), span(0, 8*w-1), 0, api.OK},                                          // all are as good
		{append(times(7, part(0, w)), minus(0, w)), span(-w+1, 7*w), 7, api.OK},                    // one choice in 101^8 is wrong
		{append(times(7, part(0, w)), minus(0, w)), span(-w, 7*w-1), 0, api.OK},                    // likewise
		{append(times(7, part(0, w)), part(0, w-1)), span(0, 8*w-2), 0, api.OK},                    // every one would do: yields of 1
		{append([]api.Part{minus(0, w)}, times(7, part(0, w))...), span(-w+1, 7*w), 0, api.OK},     // the first one
		{append([]api.Part{minus(0, w)}, times(7, part(0, w))...), span(-w, 7*w-1), 1, api.OK},     // the first of the others
		{[]api.Part{part(-m, w-m), minus(m-w, m), part(0, 0)}, span(-m, -m), 0, api.OK},            // gaps from -2·MaxSize on: none fits
		{[]api.Part{part(m-1, m), minus(m-1, m), part(-1, 0), minus(0, 1)}, span(0, 1), 1, api.OK}, // 4 of 8, as with part 3
	} {
		if n, e := fit.Narrow(c.parts, c.need); n != c.want || e != c.e {
			t.Errorf("Narrow(%v, %v) = %d, %d, not %d, %d", c.parts, c.need, n, e, c.want, c.e)
		}
	}
}

// narrowest is what the document says of Narrow, by the gaps of all choices.
func narrowest(parts []api.Part, need api.Span) (int, api.Errno) {
	gaps := gapsOf(parts)
	if counted(gaps, need) == len(gaps) {
		return 0, api.ErrNone
	}
	best, most := -1, new(big.Rat)
	for i, p := range parts {
		if p.Size.Low == p.Size.High {
			continue
		}
		changed := slices.Clone(parts)
		changed[i].Size.High--
		gaps := gapsOf(changed)
		yield := big.NewRat(int64(counted(gaps, need)), int64(len(gaps)))
		if best < 0 || yield.Cmp(most) > 0 {
			best, most = i, yield
		}
	}
	if best < 0 {
		return 0, api.ErrNone
	}
	return best, api.OK
}

func TestNarrow(t *testing.T) {
	r := rand.New(rand.NewSource(6))
	named := map[int]int{}
	for range 5000 {
		parts := randomStack(r, 4, 4)
		need := randomSpan(r, -20, 20)
		want, wantE := narrowest(parts, need)
		n, e := fit.Narrow(parts, need)
		if n != want || e != wantE {
			t.Errorf("Narrow(%v, %v) = %d, %d, not %d, %d", parts, need, n, e, want, wantE)
		}
		if e == api.OK {
			named[n]++
		}
	}
	for i := range 4 {
		if named[i] < 10 {
			t.Errorf("part %d was named %d times", i, named[i])
		}
	}
}

// refuse checks that all functions of a stack and a need return ErrArg and nothing else.
func refuse(t *testing.T, parts []api.Part, need api.Span) {
	t.Helper()
	if ok, e := fit.Always(parts, need); ok || e != api.ErrArg {
		t.Errorf("Always(%v, %v) = %t, %d", parts, need, ok, e)
	}
	if ok, e := fit.Ever(parts, need); ok || e != api.ErrArg {
		t.Errorf("Ever(%v, %v) = %t, %d", parts, need, ok, e)
	}
	if n, all, e := fit.Count(parts, need); n != 0 || all != 0 || e != api.ErrArg {
		t.Errorf("Count(%v, %v) = %d, %d, %d", parts, need, n, all, e)
	}
	if x, e := fit.Yield(parts, need); x != (api.Frac{}) || e != api.ErrArg {
		t.Errorf("Yield(%v, %v) = %v, %d", parts, need, x, e)
	}
	if n, e := fit.Narrow(parts, need); n != 0 || e != api.ErrArg {
		t.Errorf("Narrow(%v, %v) = %d, %d", parts, need, n, e)
	}
}

func TestInvalidStacks(t *testing.T) {
	for _, parts := range badStacks() {
		if s, e := fit.Stack(parts); s != (api.Span{}) || e != api.ErrArg {
			t.Errorf("Stack(%v) = %v, %d", parts, s, e)
		}
		for _, need := range []api.Span{span(0, 0), span(-m, m), span(2, 1)} {
			refuse(t, parts, need)
		}
	}
	for _, need := range badSpans() {
		for _, parts := range [][]api.Part{{part(0, 1)}, {part(0, 0)}, times(8, part(-1, 5)), nil} {
			refuse(t, parts, need)
		}
	}
	refuse(t, []api.Part{part(0, 1)}, span(math.MinInt, math.MaxInt))
}

// TestValidEnds: what is just valid is not refused.
func TestValidEnds(t *testing.T) {
	for _, parts := range [][]api.Part{
		{part(m, m)}, {part(-m, -m)}, {part(0, w)}, {minus(-w, 0)}, {part(m-w, m)}, {minus(-m, w-m)}, times(api.MaxParts, part(0, 0)), times(api.MaxParts, minus(m-w, m)),
	} {
		if _, e := fit.Stack(parts); e != api.OK {
			t.Errorf("Stack(%v): %d", parts, e)
		}
		for _, need := range []api.Span{span(-m, m), span(m, m), span(-m, -m), span(0, 0), span(-m, 0)} {
			if _, e := fit.Always(parts, need); e != api.OK {
				t.Errorf("Always(%v, %v): %d", parts, need, e)
			}
			if _, e := fit.Ever(parts, need); e != api.OK {
				t.Errorf("Ever(%v, %v): %d", parts, need, e)
			}
			if _, _, e := fit.Count(parts, need); e != api.OK {
				t.Errorf("Count(%v, %v): %d", parts, need, e)
			}
			if _, e := fit.Yield(parts, need); e != api.OK {
				t.Errorf("Yield(%v, %v): %d", parts, need, e)
			}
			if _, e := fit.Narrow(parts, need); e == api.ErrArg {
				t.Errorf("Narrow(%v, %v): %d", parts, need, e)
			}
		}
	}
}

// TestStackKept: no function changes the stack that it is given, and the same call has the same result.
func TestStackKept(t *testing.T) {
	parts := []api.Part{part(0, 3), minus(1, 4), part(-2, 2), part(5, 5)}
	before := slices.Clone(parts)
	need := span(-1, 6)
	for range 2 {
		fit.Stack(parts)
		fit.Always(parts, need)
		fit.Ever(parts, need)
		first, _ := fit.Yield(parts, need)
		n, _ := fit.Narrow(parts, need)
		for range 20 {
			if again, _ := fit.Yield(parts, need); again != first {
				t.Errorf("Yield: %v, then %v", first, again)
			}
			if again, _ := fit.Narrow(parts, need); again != n {
				t.Errorf("Narrow: %d, then %d", n, again)
			}
		}
	}
	if !slices.Equal(parts, before) {
		t.Errorf("the stack has changed: %v", parts)
	}
}
