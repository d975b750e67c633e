package dial

import "tourbillon/api"

const (
	maxPushes  = 1000
	aMinute    = 60 * 8 // eighths of a second
	halfAnHour = 30     // minutes
	anHour     = 60     // minutes
	halfADay   = 12     // hours
)

// Play returns what a chronograph shows at a time.
func Play(pushes []api.Push, at int) (api.Chrono, api.Errno) {
	if !validPushes(pushes) || !validTime(at) {
		return api.Chrono{}, api.ErrArg
	}
	c, now := api.Chrono{}, 0
	for _, p := range pushes {
		if p.Time > at {
			break
		}
		c = pushed(later(c, p.Time-now), p.Button)
		now = p.Time
	}
	return later(c, at-now), api.OK
}

// Laps returns what the split hand was held at, each time that it was held.
func Laps(pushes []api.Push) ([]int, api.Errno) {
	if !validPushes(pushes) {
		return nil, api.ErrArg
	}
	var laps []int
	c, now := api.Chrono{}, 0
	for _, p := range pushes {
		before := later(c, p.Time-now)
		c, now = pushed(before, p.Button), p.Time
		if c.Held && !before.Held {
			laps = append(laps, c.Split)
		}
	}
	return laps, api.OK
}

// Hands returns where the seconds hand, the minute counter and the hour counter are.
func Hands(eighths int) (int, int, int, api.Errno) {
	if !validTime(eighths) {
		return 0, 0, 0, api.ErrArg
	}
	minutes := eighths / aMinute
	return eighths % aMinute, minutes % halfAnHour, minutes / anHour % halfADay, api.OK
}

// later returns what a chronograph shows after some eighths of a second without a push.
func later(c api.Chrono, eighths int) api.Chrono {
	if c.Runs {
		c.Main += eighths
	}
	return follow(c)
}

// pushed returns what a chronograph shows after a push of a button.
func pushed(c api.Chrono, button int) api.Chrono {
	switch button {
	case api.ButtonStart:
		c.Runs = !c.Runs
	case api.ButtonReset:
		c.Main = 0
		if c.Runs {
			break // flyback: a held split hand stays where it is
		}
		fallthrough // while it is stopped both buttons release a held split hand, and do no more to it
	case api.ButtonSplit:
		c.Held = c.Runs && !c.Held
	}
	return follow(c)
}

// follow moves the split hand to the main hand, unless it is held.
func follow(c api.Chrono) api.Chrono {
	if !c.Held {
		c.Split = c.Main
	}
	return c
}

func validPushes(pushes []api.Push) bool {
	if len(pushes) > maxPushes {
		return false
	}
	last := 0
	for _, p := range pushes {
		if !validTime(p.Time) || p.Time < last || !validButton(p.Button) {
			return false
		}
		last = p.Time
	}
	return true
}

func validButton(button int) bool {
	switch button {
	case api.ButtonStart, api.ButtonReset, api.ButtonSplit:
		return true
	}
	return false
}

func validTime(time int) bool {
	return 0 <= time && time <= api.MaxTime
}
