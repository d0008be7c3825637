package cross

import "bolster/api"

// areFrom reports whether each number is from least to greatest.
func areFrom(least, greatest int64, numbers ...int64) bool {
	for _, n := range numbers {
		if n < least || n > greatest {
			return false
		}
	}
	return true
}

// isStation reports whether a station is as described, but for those before it.
func isStation(s api.CrossStation) bool {
	if !areFrom(0, api.MaxCrossAt, s.At) {
		return false
	}
	return areFrom(-api.MaxCrossHigh, api.MaxCrossHigh, s.High.Lo, s.High.Hi) && s.High.Lo <= s.High.Hi
}

// isTilt reports whether a ratio is a tilt. Den is looked at first: times a limit it is not beyond an int64 then.
func isTilt(t api.Ratio) bool {
	return areFrom(1, api.MaxCrossNum, t.Den) && areFrom(-api.MaxCrossTilt*t.Den, api.MaxCrossTilt*t.Den, t.Num)
}

// isAllowed reports whether a height is allowed at a station.
func isAllowed(s spot, height api.Ratio) bool {
	if !areFrom(1, api.MaxCrossAt, height.Den) || !areFrom(-api.MaxCrossNum, api.MaxCrossNum, height.Num) {
		return false
	}
	return areFrom(s.High.Lo*height.Den, s.High.Hi*height.Den, height.Num)
}

// check returns a pair, or the error of CheckPair.
func check(l []api.CrossStation) (*pair, api.Errno) {
	if e := CheckPair(l); e != api.OK {
		return nil, e
	}
	return newPair(l), api.OK
}

// checkStation returns a pair, and the station of a name, or the error of CheckPair, or ErrRange if there is none.
func checkStation(l []api.CrossStation, name int) (*pair, spot, api.Errno) {
	p, e := check(l)
	if e != api.OK {
		return nil, spot{}, e
	}
	s, e := p.spot(name)
	return p, s, e
}

// checkTruth returns a pair with the heights of a truth, or the error of CheckPair, or that of the truth.
func checkTruth(l []api.CrossStation, numbers []int64) (*pair, api.Errno) {
	p, e := check(l)
	if e != api.OK {
		return nil, e
	}
	if len(numbers) != len(l) {
		return nil, api.ErrEqual
	}
	for _, s := range p.spots {
		if !areFrom(s.High.Lo, s.High.Hi, numbers[s.name]) {
			return nil, api.ErrRange
		}
	}
	p.set(truth(numbers).height)
	return p, api.OK
}

// checkHeights returns a pair with heights that are allowed, or the error of CheckPair, or that of the heights.
func checkHeights(l []api.CrossStation, heights []api.Ratio) (*pair, api.Errno) {
	p, e := check(l)
	if e != api.OK {
		return nil, e
	}
	if len(heights) != len(l) {
		return nil, api.ErrEqual
	}
	for _, s := range p.spots {
		if !isAllowed(s, heights[s.name]) {
			return nil, api.ErrRange
		}
	}
	p.set(func(s spot) api.Ratio { return heights[s.name] })
	return p, api.OK
}
