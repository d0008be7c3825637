package rim

import "bolster/api"

// areFrom reports whether each number is from least to greatest.
func areFrom(least, greatest int64, numbers ...int64) bool {
	for _, n := range numbers {
		if n < least || n > greatest {
			return false
		}
	}
	return true
}

// isStone reports whether a stone is as described.
func isStone(s api.RimStone) bool {
	if !areFrom(1, api.MaxRimLong, s.Short, s.Long) || s.Short > s.Long {
		return false
	}
	if !areFrom(0, s.Short-1, s.Off) {
		return false
	}
	return areFrom(0, api.MaxRimSpeed, s.Speed.Lo, s.Speed.Hi) && s.Speed.Lo <= s.Speed.Hi
}

// areLengths reports whether numbers are strictly decreasing lengths of a stone.
func areLengths(s api.RimStone, numbers ...int64) bool {
	for i, n := range numbers {
		if i > 0 && n >= numbers[i-1] {
			return false
		}
	}
	return areFrom(s.Short, s.Long, numbers...)
}

// froms returns where each run of a plan begins.
func froms(plan []api.RimRun) []int64 {
	var list []int64
	for _, r := range plan {
		list = grown(list, r.From)
	}
	return taken(list)
}

// check returns the wheel of a stone and pulleys that are valid, or the error of CheckStone.
func check(s api.RimStone, pulleys []int64) (*wheel, api.Errno) {
	if e := CheckStone(s, pulleys); e != api.OK {
		return nil, e
	}
	return newWheel(s, pulleys), api.OK
}

// checkWhole returns the wheel of a stone and pulleys if there is no gap.
func checkWhole(s api.RimStone, pulleys []int64) (*wheel, api.Errno) {
	w, e := check(s, pulleys)
	if e != api.OK {
		return nil, e
	}
	if _, found := w.gap(); found {
		return nil, api.ErrRim
	}
	return w, api.OK
}

// checkRuns returns the wheel of a stone and pulleys, and the error of a plan.
func checkRuns(s api.RimStone, pulleys []int64, plan []api.RimRun) (*wheel, api.Errno) {
	w, e := check(s, pulleys)
	if e != api.OK {
		return nil, e
	}
	if len(plan) < 1 || len(plan) > api.MaxRimPasses {
		return nil, api.ErrMany
	}
	if plan[0].From != s.Long || !areLengths(s, froms(plan)...) {
		return nil, api.ErrRange
	}
	for _, r := range plan {
		if !w.isPulley(r.Pulley) {
			return nil, api.ErrRange
		}
	}
	for r, last := range w.lasts(plan) {
		if !w.bears(r.Pulley, r.From) || !w.bears(r.Pulley, last) {
			return nil, api.ErrRim
		}
	}
	return w, api.OK
}
