// Package heat follows blades through their treatments. It is layer 1: see shared/doc/01-heat.md.
package heat

import "bolster/api"

// CheckWay reports whether a way is valid. (P1.1)
func CheckWay(w api.HeatWay) api.Errno {
	if len(w.Kinks) < 1 || len(w.Kinks) > api.MaxHeatKinks {
		return api.ErrMany
	}
	if !kinksInRange(w.Kinks) {
		return api.ErrRange
	}
	if !kinksInOrder(w.Kinks) {
		return api.ErrRule
	}
	return api.OK
}

// After returns how hard a blade can be after a way. (P1.1)
func After(w api.HeatWay, hard int64) (api.Range, api.Errno) {
	if e := CheckWay(w); e != api.OK {
		return api.Range{}, e
	}
	if !areHard(hard) {
		return api.Range{}, api.ErrArg
	}
	return after(w, hard), api.OK
}

// CheckWorks reports whether a works is valid. (P1.2)
func CheckWorks(w api.HeatWorks) api.Errno {
	if !countsInRange(w) {
		return api.ErrMany
	}
	for _, b := range w.Bars {
		if !isHardRange(b) {
			return api.ErrArg
		}
	}
	for _, s := range w.Steps {
		for _, way := range s.Ways {
			if e := CheckWay(way); e != api.OK {
				return e
			}
		}
	}
	return api.OK
}

// Ranges returns between which ends the hardness lies after each step. (P1.3)
func Ranges(w api.HeatWorks, r api.HeatRecipe) ([]api.Range, api.Errno) {
	if e := checkRecipe(w, r); e != api.OK {
		return nil, e
	}
	c := follow(w, r)
	return c.ends(), api.OK
}

// CheckHistory reports whether hardnesses are a history. (P1.4)
func CheckHistory(w api.HeatWorks, r api.HeatRecipe, history []int64) api.Errno {
	if e := checkRecipe(w, r); e != api.OK {
		return e
	}
	if len(history) != len(w.Steps)+1 {
		return api.ErrEqual
	}
	within := w.Bars[r.Bar]
	for i, h := range history {
		if !contains(within, h) {
			return api.ErrRule
		}
		if i < len(w.Steps) {
			within = after(w.Steps[i].Ways[r.Ways[i]], h)
		}
	}
	return api.OK
}

// History returns a history that agrees with what was measured. (P1.4)
func History(w api.HeatWorks, r api.HeatRecipe, measured api.Range) ([]int64, api.Errno) {
	c, e := agreeing(w, r, measured)
	if e != api.OK {
		return nil, e
	}
	var list []int64
	for h := range c.history() {
		list = grown(list, h)
	}
	return taken(list), api.OK
}

// Had returns between which ends the hardness has been after each step. (P1.5)
func Had(w api.HeatWorks, r api.HeatRecipe, measured api.Range) ([]api.Range, api.Errno) {
	c, e := agreeing(w, r, measured)
	if e != api.OK {
		return nil, e
	}
	return c.ends(), api.OK
}

// Bars returns the bars that can have made a blade. (P1.6)
func Bars(w api.HeatWorks, measured api.Range) ([]int, api.Errno) {
	m, e := someMakers(w, measured)
	if e != api.OK {
		return nil, e
	}
	return m.left(theBar), api.OK
}

// Ways returns the ways that can have made a blade. (P1.6)
func Ways(w api.HeatWorks, measured api.Range) ([][]int, api.Errno) {
	m, e := someMakers(w, measured)
	if e != api.OK {
		return nil, e
	}
	var list [][]int
	for step := range w.Steps {
		list = grown(list, m.left(step))
	}
	return taken(list), api.OK
}

// Count returns how many recipes can have made a blade. (P1.7)
func Count(w api.HeatWorks, measured api.Range) (int, api.Errno) {
	m, e := allMakers(w, measured)
	if e != api.OK {
		return 0, e
	}
	return m.total, api.OK
}

// Ask returns what to ask for, and how many recipes are left at worst then. (P1.8)
func Ask(w api.HeatWorks, measured api.Range) (int, int, api.Errno) {
	m, e := someMakers(w, measured)
	if e != api.OK {
		return 0, 0, e
	}
	var worst []int
	for step := theBar; step < len(w.Steps); step++ {
		worst = grown(worst, m.worst(step))
	}
	at := leastAt(worst)
	return theBar + at, worst[at], api.OK
}
