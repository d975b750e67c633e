package gear

import (
	"cmp"
	"iter"
	"slices"
	"sort"

	"tourbillon/api"
)

// maxRatio is how many wheels a train whose ratio is asked for may have.
const maxRatio = 6

// Meet returns after how many turns of the wheel, and of the pinion, the same two teeth meet again.
func Meet(wheel, pinion int) (int, int, api.Errno) {
	if !inRange(wheel, 1, api.MaxTeeth) || !inRange(pinion, 1, api.MaxTeeth) {
		return 0, 0, api.ErrArg
	}
	shared := int(gcd(magnitude(wheel), magnitude(pinion)))
	return pinion / shared, wheel / shared, api.OK
}

// Ratio returns a train's ratio.
func Ratio(t api.Train) (api.Frac, api.Errno) {
	if !inRange(len(t.Wheels), 1, maxRatio) || len(t.Pinions) != len(t.Wheels) {
		return api.Frac{}, api.ErrArg
	}
	num, den := 1, 1
	for i, wheel := range t.Wheels {
		pinion := t.Pinions[i]
		if !inRange(wheel, 1, api.MaxTeeth) || !inRange(pinion, 1, api.MaxTeeth) {
			return api.Frac{}, api.ErrArg
		}
		num, den = num*wheel, den*pinion
	}
	return Make(num, den)
}

// Fits reports whether a train fits limits.
func Fits(t api.Train, l api.Teeth) (bool, api.Errno) {
	if !validLimits(l) {
		return false, api.ErrArg
	}
	if !inRange(len(t.Wheels), 1, l.Stages) || len(t.Pinions) != len(t.Wheels) {
		return false, api.OK
	}
	for i, wheel := range t.Wheels {
		pinion := t.Pinions[i]
		if !inRange(wheel, l.WheelLow, l.WheelHigh) || !inRange(pinion, l.PinionLow, l.PinionHigh) {
			return false, api.OK
		}
		if i > 0 && (wheel > t.Wheels[i-1] || pinion < t.Pinions[i-1]) {
			return false, api.OK
		}
	}
	return true, api.OK
}

// Exact returns the best train whose ratio is target.
func Exact(target api.Frac, l api.Teeth) (api.Train, api.Errno) {
	if e := checkSearch(target, l); e != api.OK {
		return api.Train{}, e
	}
	for stages := 1; stages <= l.Stages; stages++ {
		var best train
		for t := range trains(target, l, stages) {
			if t.ratio() == target && (best.stages == 0 || t.better(best)) {
				best = t
			}
		}
		if best.stages > 0 {
			return best.given(), api.OK
		}
	}
	return api.Train{}, api.ErrNone
}

// Closest returns the best train of those whose ratio is nearest to target, and its ratio minus target.
func Closest(target api.Frac, l api.Teeth) (api.Train, api.Frac, api.Errno) {
	if e := checkSearch(target, l); e != api.OK {
		return api.Train{}, api.Frac{}, e
	}
	var best train
	for stages := 1; stages <= l.Stages; stages++ {
		for t := range trains(target, l, stages) {
			if best.stages == 0 || t.nearer(best, target) {
				best = t
			}
		}
	}
	off, e := Sub(best.ratio(), target)
	if e != api.OK {
		return api.Train{}, api.Frac{}, e
	}
	return best.given(), off, api.OK
}

func checkSearch(target api.Frac, l api.Teeth) api.Errno {
	if e := Check(target); e != api.OK {
		return e
	}
	if !validLimits(l) || target.Num <= 0 {
		return api.ErrArg
	}
	return api.OK
}

func validLimits(l api.Teeth) bool {
	return validTeeth(l.WheelLow, l.WheelHigh, api.MaxWheels) &&
		validTeeth(l.PinionLow, l.PinionHigh, api.MaxPinions) &&
		inRange(l.Stages, 1, api.MaxStages)
}

// validTeeth reports whether low to high are at most `most` numbers of teeth.
func validTeeth(low, high, most int) bool {
	return inRange(high, 1, api.MaxTeeth) && inRange(low, 1, high) && high-low < most
}

func inRange(n, low, high int) bool {
	return low <= n && n <= high
}

// train is a train of a search.
type train struct {
	stages          int
	wheels, pinions side
}

// trains gives out those trains of so many stages that may be nearest to target: for each product of pinions the best train of the greatest ratio that is not above target, and the best one of the least ratio that is. Every other one is farther from target, or not better.
func trains(target api.Frac, l api.Teeth, stages int) iter.Seq[train] {
	return func(yield func(train) bool) {
		wheels := sides(l.WheelLow, l.WheelHigh, stages, false)
		for _, pinions := range sides(l.PinionLow, l.PinionHigh, stages, true) {
			above := sort.Search(len(wheels), func(i int) bool {
				return compare(api.Frac{Num: wheels[i].product, Den: pinions.product}, target) > 0
			})
			for i := max(above-1, 0); i < min(above+1, len(wheels)); i++ {
				if !yield(train{stages, wheels[i], pinions}) {
					return
				}
			}
		}
	}
}

// ratio returns a train's ratio in lowest terms, for which the teeth of a search are few enough.
func (t train) ratio() api.Frac {
	ratio, _ := Make(t.wheels.product, t.pinions.product)
	return ratio
}

// better reports whether t is better than u.
func (t train) better(u train) bool {
	if t.stages != u.stages {
		return t.stages < u.stages
	}
	sum, other := t.wheels.sum+t.pinions.sum, u.wheels.sum+u.pinions.sum
	if sum != other {
		return sum < other
	}
	if c := slices.Compare(t.wheels.teeth[:], u.wheels.teeth[:]); c != 0 {
		return c < 0
	}
	return slices.Compare(t.pinions.teeth[:], u.pinions.teeth[:]) < 0
}

// nearer reports whether t is nearer to target than u, or as near and better. Of two ratios the lesser one is nearer to target exactly if target is below their mean.
func (t train) nearer(u train, target api.Frac) bool {
	a, b := t.ratio(), u.ratio()
	if a == b {
		return t.better(u)
	}
	mean := api.Frac{Num: a.Num*b.Den + b.Num*a.Den, Den: 2 * a.Den * b.Den}
	c := compare(target, mean)
	if c == 0 {
		return t.better(u)
	}
	return (c < 0) == (compare(a, b) < 0)
}

// given returns a train as it is given out, in new memory.
func (t train) given() api.Train {
	return api.Train{
		Wheels:  slices.Clone(t.wheels.teeth[:t.stages]),
		Pinions: slices.Clone(t.pinions.teeth[:t.stages]),
	}
}

// side is the teeth of all wheels of a train, or of all its pinions, in the train's order; those of missing stages are 0.
type side struct {
	teeth        [api.MaxStages]int
	product, sum int
}

// sides returns, in the order of their products, the best side for each product of so many numbers of teeth from low to high: the one of the least sum, and of several the lexicographically least. A train with another one is not better. Teeth do not fall if rising, and do not rise otherwise.
func sides(low, high, stages int, rising bool) []side {
	all := []side{{product: 1}}
	for stage := range stages {
		var longer []side
		for _, s := range all {
			from, to := low, high
			switch {
			case stage > 0 && rising:
				from = s.teeth[stage-1]
			case stage > 0:
				to = s.teeth[stage-1]
			}
			for teeth := from; teeth <= to; teeth++ {
				longer = append(longer, s.with(stage, teeth))
			}
		}
		all = longer
	}
	slices.SortFunc(all, compareSides)
	return slices.CompactFunc(all, func(a, b side) bool { return a.product == b.product })
}

// with returns s with so many teeth at a further stage.
func (s side) with(stage, teeth int) side {
	s.teeth[stage] = teeth
	s.product *= teeth
	s.sum += teeth
	return s
}

func compareSides(a, b side) int {
	if a.product != b.product {
		return cmp.Compare(a.product, b.product)
	}
	if a.sum != b.sum {
		return cmp.Compare(a.sum, b.sum)
	}
	return slices.Compare(a.teeth[:], b.teeth[:])
}
