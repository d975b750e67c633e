package dial

import "tourbillon/api"

const (
	leaps     = 4         // years after which the mechanism takes one for a leap year again
	fourYears = 4*365 + 1 // midnights after which it comes back to the same day
	moons     = 59        // days of two moons
	never     = -1        // the number of a midnight that does not come
)

// Set returns the face of a date.
func Set(d api.Date, moon int) (api.Face, api.Errno) {
	if !validDate(d) || !validMoon(moon) {
		return api.Face{}, api.ErrArg
	}
	return faceOf(d, moon), api.OK
}

// Midnight returns the face after a number of midnights.
func Midnight(f api.Face, nights int) (api.Face, api.Errno) {
	if !validFace(f) || !validNights(nights) {
		return api.Face{}, api.ErrArg
	}
	return midnights(f, nights), api.OK
}

// Correct returns the face after a push of a corrector.
func Correct(f api.Face, push int) (api.Face, api.Errno) {
	if !validFace(f) {
		return api.Face{}, api.ErrArg
	}
	switch push {
	case api.PushDay, api.PushMonth, api.PushWeekday, api.PushMoon:
		return corrected(f, push), api.OK
	}
	return api.Face{}, api.ErrArg
}

// Shows reports whether a face shows a date. Neither Leap nor Moon is asked.
func Shows(f api.Face, d api.Date) (bool, api.Errno) {
	if !validFace(f) || !validDate(d) {
		return false, api.ErrArg
	}
	right := faceOf(d, f.Moon)
	right.Leap = f.Leap
	return f == right, api.OK
}

// Wrong returns after how many midnights a face that was set to a date is wrong for the first time, or -1 if it is right after each of them.
func Wrong(d api.Date, nights int) (int, api.Errno) {
	if !validDate(d) || !validNights(nights) || numberOf(d)+nights > lastNumber() {
		return 0, api.ErrArg
	}
	return firstWrong(d, nights), api.OK
}

// Pushes returns how often PushDay, PushMonth, PushWeekday and PushMoon are pushed to come from one face to another one. PushMonth is pushed first.
func Pushes(from, to api.Face) (int, int, int, int, api.Errno) {
	if !validFace(from) || !validFace(to) {
		return 0, 0, 0, 0, api.ErrArg
	}
	f, monthPushes := from, 0
	for f.Month != to.Month || f.Leap != to.Leap {
		f = corrected(f, api.PushMonth)
		monthPushes++
	}
	if f.Day > to.Day {
		return 0, 0, 0, 0, api.ErrNone
	}
	return to.Day - f.Day, monthPushes, around(f.Weekday, to.Weekday, week), around(f.Moon, to.Moon, moons), api.OK
}

// around returns how many steps a hand takes from one of its places to another one.
func around(from, to, places int) int {
	return (to - from + places) % places
}

// firstWrong compares the mechanism's months with those of the calendar: a face that is right stays so until one of them ends its month before the other does.
func firstWrong(d api.Date, nights int) int {
	f := faceOf(d, 0)
	for night := 0; ; {
		ofMechanism, ofCalendar := lastDay(f), lengthOf(d.Year, d.Month)
		night += min(ofMechanism, ofCalendar) - d.Day + 1
		if night > nights {
			return never
		}
		if ofMechanism != ofCalendar {
			return night
		}
		f, d = nextMonth(f), monthAfter(d)
	}
}

// midnights returns the face after a number of midnights. Whole rounds bring the hands back, so only what is beyond them is run.
func midnights(f api.Face, nights int) api.Face {
	f.Weekday = (f.Weekday + nights) % week
	f.Moon = (f.Moon + nights) % moons
	for range nights % fourYears {
		f = corrected(f, api.PushDay)
	}
	return f
}

// corrected returns the face after a push of one of the four correctors.
func corrected(f api.Face, push int) api.Face {
	switch push {
	case api.PushWeekday:
		f.Weekday = (f.Weekday + 1) % week
	case api.PushMoon:
		f.Moon = (f.Moon + 1) % moons
	case api.PushDay:
		if f.Day < lastDay(f) {
			f.Day++
			break
		}
		f.Day = 1
		fallthrough // after the last day of a month the next month comes
	case api.PushMonth:
		f = nextMonth(f)
		f.Day = min(f.Day, lastDay(f))
	}
	return f
}

// nextMonth moves Month, and Leap with it, but leaves Day as it is.
func nextMonth(f api.Face) api.Face {
	if f.Month < months {
		f.Month++
		return f
	}
	f.Month = 1
	f.Leap = (f.Leap + 1) % leaps
	return f
}

// lastDay returns the days that the mechanism gives the month.
func lastDay(f api.Face) int {
	return daysOf(f.Month, f.Leap == 0)
}

func faceOf(d api.Date, moon int) api.Face {
	return api.Face{Day: d.Day, Month: d.Month, Leap: d.Year % leaps, Weekday: weekdayOf(numberOf(d)), Moon: moon}
}

func validFace(f api.Face) bool {
	return 1 <= f.Month && f.Month <= months && 0 <= f.Leap && f.Leap < leaps &&
		1 <= f.Day && f.Day <= lastDay(f) && 0 <= f.Weekday && f.Weekday < week && validMoon(f.Moon)
}

func validMoon(moon int) bool {
	return 0 <= moon && moon < moons
}

func validNights(nights int) bool {
	return 0 <= nights && nights <= api.MaxNights
}
