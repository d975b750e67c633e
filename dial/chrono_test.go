package dial_test

import (
	"math/rand"
	"slices"
	"testing"

	"tourbillon/api"
	"tourbillon/dial"
)

const (
	start = api.ButtonStart
	reset = api.ButtonReset
	split = api.ButtonSplit
	end   = api.MaxTime
)

func TestPlayByHand(t *testing.T) {
	for _, c := range []struct {
		pushes []api.Push
		at     int
		want   api.Chrono
	}{
		{nil, 0, api.Chrono{}},
		{nil, end, api.Chrono{}},
		{[]api.Push{}, 77, api.Chrono{}},
		{script(80, start, 160, split), 200, api.Chrono{Runs: true, Held: true, Main: 120, Split: 80}},
		{script(80, start, 160, split), 160, api.Chrono{Runs: true, Held: true, Main: 80, Split: 80}},
		{script(80, start, 160, split), 159, api.Chrono{Runs: true, Main: 79, Split: 79}},
		{script(80, start, 160, split), 80, api.Chrono{Runs: true}},
		{script(80, start, 160, split), 79, api.Chrono{}},
		{script(0, start), 0, api.Chrono{Runs: true}},
		{script(0, start), end, api.Chrono{Runs: true, Main: end, Split: end}},
		{script(0, start, end, start), end, api.Chrono{Main: end, Split: end}},
		{script(0, start, end, split), end, api.Chrono{Runs: true, Held: true, Main: end, Split: end}},
		{script(end, start), end, api.Chrono{Runs: true}},
		{script(5, start, 9, start), 30, api.Chrono{Main: 4, Split: 4}},
		{script(5, start, 9, start, 20, start), 30, api.Chrono{Runs: true, Main: 14, Split: 14}}, // goes on from its value
		{script(5, start, 5, start), 30, api.Chrono{}},
		{script(5, start, 5, start, 5, start), 30, api.Chrono{Runs: true, Main: 25, Split: 25}},
		{script(5, start, 9, start, 12, reset), 30, api.Chrono{}},
		{script(5, start, 9, start, 12, reset, 15, start), 30, api.Chrono{Runs: true, Main: 15, Split: 15}},
		{script(5, start, 12, reset), 30, api.Chrono{Runs: true, Main: 18, Split: 18}}, // flyback
		{script(5, start, 8, split, 12, reset), 30, api.Chrono{Runs: true, Held: true, Main: 18, Split: 3}},
		{script(5, start, 8, split, 12, reset, 14, split), 30, api.Chrono{Runs: true, Main: 18, Split: 18}},
		{script(5, start, 8, split, 12, start), 30, api.Chrono{Held: true, Main: 7, Split: 3}}, // held while it stops
		{script(5, start, 8, split, 12, start, 14, start), 30, api.Chrono{Runs: true, Held: true, Main: 23, Split: 3}},
		{script(5, start, 8, split, 12, start, 14, split), 30, api.Chrono{Main: 7, Split: 7}}, // released while it is stopped
		{script(5, start, 8, split, 12, start, 14, split, 15, split), 30, api.Chrono{Main: 7, Split: 7}},
		{script(5, start, 8, split, 12, start, 14, reset), 30, api.Chrono{}},
		{script(5, start, 8, split, 12, start, 14, reset, 20, start), 30, api.Chrono{Runs: true, Main: 10, Split: 10}},
		{script(5, split), 30, api.Chrono{}},
		{script(5, split, 6, start), 30, api.Chrono{Runs: true, Main: 24, Split: 24}},
		{script(5, reset, 6, start), 30, api.Chrono{Runs: true, Main: 24, Split: 24}},
		{script(5, start, 8, split, 8, split), 30, api.Chrono{Runs: true, Main: 25, Split: 25}},
		{script(5, start, 8, split, 8, reset), 30, api.Chrono{Runs: true, Held: true, Main: 22, Split: 3}},
		{script(5, start, 8, reset, 8, split), 30, api.Chrono{Runs: true, Held: true, Main: 22, Split: 0}},
		{times(1000, push(0, start)), end, api.Chrono{}},
		{append(times(999, push(1, start)), push(2, split)), end, api.Chrono{Runs: true, Held: true, Main: end - 1, Split: 1}},
		{append(times(999, push(end, start)), push(end, reset)), end - 1, api.Chrono{}},
	} {
		if x, e := dial.Play(c.pushes, c.at); x != c.want || e != api.OK {
			t.Errorf("Play(%v, %d) = %v, %d, not %v", c.pushes, c.at, x, e, c.want)
		}
	}
}

func TestLapsByHand(t *testing.T) {
	for _, c := range []struct {
		pushes []api.Push
		want   []int
	}{
		{nil, nil},
		{[]api.Push{}, nil},
		{script(5, split, 6, reset, 7, split), nil},
		{script(80, start, 160, split), []int{80}},
		{script(80, start, 160, split, 170, split), []int{80}}, // the second one releases it
		{script(80, start, 160, split, 170, split, 180, split), []int{80, 100}},
		{script(0, start, 10, split, 10, split, 10, split, 10, split), []int{10, 10}},
		{script(0, start, 10, split, 20, start, 30, split, 40, split, 50, start, 60, split), []int{10, 30}}, // no lap while it is stopped
		{script(0, start, 10, split, 20, reset, 30, split, 35, split), []int{10, 15}},
		{script(0, start, 10, split, 20, start, 25, reset, 30, start, 35, split), []int{10, 5}},
		{script(0, start, 0, split), []int{0}},
		{script(0, start, end, split), []int{end}},
		{script(0, split, 0, start, end, reset, end, split), []int{0}},
		{append(script(0, start), times(999, push(3, split))...), slices.Repeat([]int{3}, 500)},
	} {
		if laps, e := dial.Laps(c.pushes); !slices.Equal(laps, c.want) || e != api.OK {
			t.Errorf("Laps(%v) = %v, %d, not %v", c.pushes, laps, e, c.want)
		}
	}
}

// everySeries calls f with every series of up to most pushes that follow one another after 0, 1 or 3 eighths of a second.
func everySeries(most int, f func(pushes []api.Push)) {
	var extend func(pushes []api.Push, now int)
	extend = func(pushes []api.Push, now int) {
		f(pushes)
		if len(pushes) == most {
			return
		}
		for _, gap := range []int{0, 1, 3} {
			for button := 1; button <= 3; button++ {
				extend(append(pushes[:len(pushes):len(pushes)], push(now+gap, button)), now+gap)
			}
		}
	}
	extend(nil, 0)
}

// TestEverySeries compares Play and Laps with a chronograph that is run eighth by eighth.
func TestEverySeries(t *testing.T) {
	everySeries(5, func(pushes []api.Push) {
		last := 17
		shown, laps := run(pushes, last)
		for at := range last + 1 {
			if c, e := dial.Play(pushes, at); c != shown[at] || e != api.OK {
				t.Fatalf("Play(%v, %d) = %v, %d, not %v", pushes, at, c, e, shown[at])
			}
		}
		if got, e := dial.Laps(pushes); !slices.Equal(got, laps) || e != api.OK {
			t.Fatalf("Laps(%v) = %v, %d, not %v", pushes, got, e, laps)
		}
	})
}

// randomPushes returns n pushes up to a time, many of them at one time.
func randomPushes(r *rand.Rand, n, last int) []api.Push {
	var times []int
	for range n {
		times = append(times, r.Intn(last+1))
		if len(times) > 1 && r.Intn(3) == 0 {
			times[len(times)-1] = times[len(times)-2]
		}
	}
	slices.Sort(times)
	var pushes []api.Push
	for _, time := range times {
		pushes = append(pushes, push(time, 1+r.Intn(3)))
	}
	return pushes
}

func TestRandomSeries(t *testing.T) {
	r := rand.New(rand.NewSource(5))
	for k := range 300 {
		pushes := randomPushes(r, []int{3, 10, 40, 1000}[k%4], 500)
		shown, laps := run(pushes, 600)
		for at, want := range shown {
			if c, e := dial.Play(pushes, at); c != want || e != api.OK {
				t.Fatalf("Play(%v, %d) = %v, %d, not %v", pushes, at, c, e, want)
			}
		}
		if got, e := dial.Laps(pushes); !slices.Equal(got, laps) || e != api.OK {
			t.Fatalf("Laps(%v) = %v, %d, not %v", pushes, got, e, laps)
		}
	}
}

// TestD5Sum: Main is the sum of the times at which it ran since the last reset.
func TestD5Sum(t *testing.T) {
	r := rand.New(rand.NewSource(6))
	for k := range 300 {
		pushes := randomPushes(r, []int{1, 5, 20, 1000}[k%4], end)
		ats := []int{0, end, end - 1, r.Intn(end + 1)}
		for _, p := range pushes {
			ats = append(ats, p.Time, max(0, p.Time-1), min(end, p.Time+1))
		}
		for _, at := range ats[:min(len(ats), 100)] {
			if c, e := dial.Play(pushes, at); c.Main != ran(pushes, at) || e != api.OK {
				t.Fatalf("Play(%v, %d) = %v, %d, not %d", pushes, at, c, e, ran(pushes, at))
			}
		}
	}
}

// TestD5Splits: two pushes of ButtonSplit at one time change nothing, if the split hand is not held.
func TestD5Splits(t *testing.T) {
	changed := 0
	everySeries(4, func(pushes []api.Push) {
		for k := range len(pushes) + 1 {
			time := 0
			if k > 0 {
				time = pushes[k-1].Time
			}
			before, _ := dial.Play(pushes[:k], time)
			more := slices.Insert(slices.Clone(pushes), k, push(time, split), push(time, split))
			same := true
			for at := range 15 {
				a, e1 := dial.Play(pushes, at)
				b, e2 := dial.Play(more, at)
				if e1 != api.OK || e2 != api.OK {
					t.Fatalf("Play(%v, %d): %d, %d", more, at, e1, e2)
				}
				same = same && a == b
			}
			if !same && !before.Held {
				t.Fatalf("two splits change %v at %d", pushes, k)
			}
			if !same {
				changed++
			}
		}
	})
	if changed == 0 {
		t.Errorf("two splits never change anything, even if the split hand is held")
	}
}

// TestLaterPushes: a push after the time that is asked for changes nothing, but it has to be valid.
func TestLaterPushes(t *testing.T) {
	r := rand.New(rand.NewSource(7))
	for range 200 {
		pushes := randomPushes(r, 30, 100)
		at := r.Intn(110)
		done := slices.IndexFunc(pushes, func(p api.Push) bool { return p.Time > at })
		if done < 0 {
			continue
		}
		a, e1 := dial.Play(pushes, at)
		b, e2 := dial.Play(pushes[:done], at)
		if a != b || e1 != api.OK || e2 != api.OK {
			t.Errorf("Play(%v, %d) = %v, %d, not %v, %d", pushes, at, a, e1, b, e2)
		}
		bad := append(slices.Clone(pushes), push(101, 4))
		c, e := dial.Play(bad, at)
		fails(t, e, api.ErrArg, c == api.Chrono{}, "Play", bad, at)
	}
}

func TestChronoInvalid(t *testing.T) {
	for _, bad := range badPushes() {
		for _, at := range []int{0, 1, 10, end, -1} {
			c, e := dial.Play(bad, at)
			fails(t, e, api.ErrArg, c == api.Chrono{}, "Play", bad, at)
		}
		laps, e := dial.Laps(bad)
		fails(t, e, api.ErrArg, len(laps) == 0, "Laps", bad)
	}
	for _, at := range append(far(), -1, end+1) {
		for _, pushes := range [][]api.Push{nil, script(0, start), script(5, start, 7, split)} {
			c, e := dial.Play(pushes, at)
			fails(t, e, api.ErrArg, c == api.Chrono{}, "Play", pushes, at)
		}
		a, b, c, e := dial.Hands(at)
		fails(t, e, api.ErrArg, a == 0 && b == 0 && c == 0, "Hands", at)
	}
}

func TestHandsByHand(t *testing.T) {
	for _, c := range [][4]int{
		{0, 0, 0, 0}, {1, 1, 0, 0}, {8, 8, 0, 0}, {479, 479, 0, 0}, {480, 0, 1, 0}, {481, 1, 1, 0},
		{30*480 - 1, 479, 29, 0}, {30 * 480, 0, 0, 0}, {59 * 480, 0, 29, 0}, {60 * 480, 0, 0, 1}, {90*480 + 5, 5, 0, 1}, {91*480 + 5, 5, 1, 1},
		{12*28800 - 1, 479, 29, 11}, {12 * 28800, 0, 0, 0}, {13*28800 + 31*480 + 7, 7, 1, 1},
		{end, 160, 13, 6}, {end - 1, 159, 13, 6}, {end - 161, 479, 12, 6},
	} {
		if s, m, h, e := dial.Hands(c[0]); s != c[1] || m != c[2] || h != c[3] || e != api.OK {
			t.Errorf("Hands(%d) = %d, %d, %d, %d, not %v", c[0], s, m, h, e, c[1:])
		}
	}
}

// TestHands counts the hands on for a day and more, one eighth after the other.
func TestHands(t *testing.T) {
	seconds, minutes, halves := 0, 0, 0
	for eighths := range 25 * 28800 {
		if s, m, h, e := dial.Hands(eighths); s != seconds || m != minutes || h != halves/2 || e != api.OK {
			t.Fatalf("Hands(%d) = %d, %d, %d, %d, not %d, %d, %d", eighths, s, m, h, e, seconds, minutes, halves/2)
		}
		if seconds++; seconds < 480 {
			continue
		}
		seconds = 0
		if minutes++; minutes < 30 {
			continue
		}
		minutes, halves = 0, (halves+1)%24
	}
}

// TestPushesKept is R5 and R6: pushes, and the room behind them, are left as they are, laps are new memory, and a call gives the same again.
func TestPushesKept(t *testing.T) {
	room := slices.Repeat(script(9, 9), 40)
	pushes := append(room[:0], script(0, start, 10, split, 11, split, 20, split, 25, reset, 30, split, 35, split)...)
	before := slices.Clone(room)
	first, _ := dial.Laps(pushes)
	shown, _ := dial.Play(pushes, 33)
	want := []int{10, 20, 10}
	if !slices.Equal(first, want) {
		t.Fatalf("Laps = %v", first)
	}
	clear(first[:cap(first)])
	for range 3 {
		second, _ := dial.Laps(pushes)
		again, _ := dial.Play(pushes, 33)
		if !slices.Equal(second, want) || again != shown || !slices.Equal(room, before) {
			t.Errorf("again: %v, %v, %v", second, again, room)
		}
	}
}
