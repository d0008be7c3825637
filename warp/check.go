package warp

import "bolster/api"

// amountsWithin reports whether the amount of each number is at most most. (No number is given the other sign: the least one of its type has no opposite.)
func amountsWithin(most int64, numbers ...int64) bool {
	for _, n := range numbers {
		if n < -most || n > most {
			return false
		}
	}
	return true
}

// isStation reports whether a station is as described.
func isStation(s api.WarpStation) bool {
	return amountsWithin(api.MaxWarpAngle, s.Angle, s.Tol.Lo, s.Tol.Hi) && s.Tol.Lo <= s.Tol.Hi && 1 <= s.Hard && s.Hard <= api.MaxWarpHard
}

// checkName returns the error of the blade, or else ErrRange if station is not the name of one.
func checkName(b api.WarpBlade, station int) api.Errno {
	if e := CheckBlade(b); e != api.OK {
		return e
	}
	if station < 0 || station >= len(b.Stations) {
		return api.ErrRange
	}
	return api.OK
}

// checkNumbers returns the error of the blade, or else that of a list with a number for each station, none with an amount above most.
func checkNumbers(b api.WarpBlade, most int64, numbers []int64) api.Errno {
	if e := CheckBlade(b); e != api.OK {
		return e
	}
	if len(numbers) != len(b.Stations) {
		return api.ErrEqual
	}
	if !amountsWithin(most, numbers...) {
		return api.ErrRange
	}
	return api.OK
}
