package heat

import "bolster/api"

// theBar stands in place of a step for the choice of the bar.
const theBar = -1

// place is one choice of a recipe: at a step, or theBar, this way, or this bar.
type place struct {
	step, index int
}

// makers are the recipes of a works that can have made a blade: how many they are, and how many have each place.
type makers struct {
	api.HeatWorks
	measured api.Range
	total    int
	places   map[place]int
}

// allMakers counts the recipes that can have made a blade.
func allMakers(w api.HeatWorks, measured api.Range) (*makers, api.Errno) {
	if e := CheckWorks(w); e != api.OK {
		return nil, e
	}
	if !isHardRange(measured) {
		return nil, api.ErrArg
	}
	m := &makers{HeatWorks: w, measured: measured, places: map[place]int{}}
	for i, bar := range m.Bars {
		n := m.count(0, bar)
		m.places[place{theBar, i}] += n
		m.total += n
	}
	for p, n := range m.places {
		if n == 0 {
			delete(m.places, p)
		}
	}
	return m, api.OK
}

// someMakers returns the recipes that can have made a blade if there are any.
func someMakers(w api.HeatWorks, measured api.Range) (*makers, api.Errno) {
	m, e := allMakers(w, measured)
	if e != api.OK {
		return nil, e
	}
	if m.total == 0 {
		return nil, api.ErrSoft
	}
	return m, api.OK
}

// count returns by how many choices of ways, from a step on, what was measured can come out of a range, and adds them to their places.
func (m *makers) count(step int, from api.Range) int {
	if step == len(m.Steps) {
		if from.Lo <= m.measured.Hi && m.measured.Lo <= from.Hi {
			return 1
		}
		return 0
	}
	total := 0
	for i, w := range m.Steps[step].Ways {
		n := m.count(step+1, through(w, from))
		m.places[place{step, i}] += n
		total += n
	}
	return total
}

// through returns what comes out of a range. As a valid way never leaves out a hardness between, and its ends never fall, the ends of what comes out of the ends tell all of it.
func through(w api.HeatWay, from api.Range) api.Range {
	return api.Range{Lo: after(w, from.Lo).Lo, Hi: after(w, from.Hi).Hi}
}

// choices returns how many ways there are for a step, or how many bars.
func (m *makers) choices(step int) int {
	if step == theBar {
		return len(m.Bars)
	}
	return len(m.Steps[step].Ways)
}

// left returns the ways of a step, or the bars, that can have made the blade.
func (m *makers) left(step int) []int {
	var list []int
	for i := range m.choices(step) {
		if _, ok := m.places[place{step, i}]; ok {
			list = grown(list, i)
		}
	}
	return taken(list)
}

// worst returns how many recipes are left at worst after asking for a step, or for the bar.
func (m *makers) worst(step int) int {
	most := 0
	for i := range m.choices(step) {
		most = max(most, m.places[place{step, i}])
	}
	return most
}
