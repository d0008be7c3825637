package heat

import (
	"iter"

	"bolster/api"
)

// noHardness is what a search finds where there is none.
const noHardness = -1

// row tells of each hardness whether it can be had: 1 if it can, 0 if not.
type row [api.MaxHeatHard + 1]uint8

func (r *row) holds(hard int64) bool { return r[hard] == 1 }

// fill makes all hardnesses of a range ones that can be had.
func (r *row) fill(all api.Range) {
	for h := all.Lo; h <= all.Hi; h++ {
		r[h] = 1
	}
}

// keep takes out all hardnesses that are not wanted.
func (r *row) keep(wanted func(hard int64) bool) {
	for h := range r {
		if !wanted(int64(h)) {
			r[h] = 0
		}
	}
}

// first returns the least hardness of a range that can be had, or noHardness.
func (r *row) first(within api.Range) int64 {
	found := int64(noHardness)
search:
	for h := within.Lo; ; h++ {
		switch {
		case h > within.Hi:
			break search
		case r.holds(h):
			found = h
			break search
		}
	}
	return found
}

func (r *row) meets(within api.Range) bool { return r.first(within) != noHardness }

// ends returns from the least to the greatest hardness that can be had; there has to be one.
func (r *row) ends() api.Range {
	e := api.Range{Lo: api.MaxHeatHard, Hi: 0}
	for h := range r {
		if r.holds(int64(h)) {
			e.Lo = min(e.Lo, int64(h))
			e.Hi = int64(h)
		}
	}
	return e
}

// stretch is the part of a way that belongs to one kink: each hardness of from can become each one of to.
type stretch struct {
	from, to api.Range
}

// stretches returns the stretches of a way: each one goes up to the next kink.
func stretches(w api.HeatWay) []stretch {
	var list []stretch
	for i, k := range w.Kinks {
		last := int64(api.MaxHeatHard)
		if i+1 < len(w.Kinks) {
			last = w.Kinks[i+1].From - 1
		}
		list = grown(list, stretch{api.Range{Lo: k.From, Hi: last}, k.After})
	}
	return list
}

// after returns what a hardness can be after a valid way.
func after(w api.HeatWay, hard int64) api.Range {
	r := w.Kinks[0].After
	for _, k := range w.Kinks {
		if k.From <= hard {
			r = k.After
		}
	}
	return r
}

// course is a recipe of a works, with a row of what can be had for the bar and for each step.
type course struct {
	api.HeatWorks
	api.HeatRecipe
	rows []row
}

// way returns the way by which the recipe does a step.
func (c *course) way(step int) api.HeatWay { return c.Steps[step].Ways[c.Ways[step]] }

// follow returns the course of a valid recipe, with all that its histories have.
func follow(w api.HeatWorks, r api.HeatRecipe) *course {
	c := &course{HeatWorks: w, HeatRecipe: r}
	var next row
	next.fill(c.Bars[c.Bar])
	c.rows = grown(c.rows, next)
	for step := range c.Steps {
		clear(next[:])
		for _, s := range stretches(c.way(step)) {
			if c.rows[step].meets(s.from) {
				next.fill(s.to)
			}
		}
		c.rows = grown(c.rows, next)
	}
	return c
}

// agree leaves in the rows what only those histories have whose last hardness is wanted, and reports whether there is one.
func (c *course) agree(wanted func(hard int64) bool) bool {
	last := &c.rows[len(c.Steps)]
	last.keep(wanted)
	if *last == (row{}) {
		return false
	}
	var leads row
	for step := len(c.Steps) - 1; step >= 0; step-- {
		clear(leads[:])
		for _, s := range stretches(c.way(step)) {
			if c.rows[step+1].meets(s.to) {
				leads.fill(s.from)
			}
		}
		c.rows[step].keep(leads.holds)
	}
	return true
}

// agreeing returns the course of a recipe with what those histories have that agree with what was measured.
func agreeing(w api.HeatWorks, r api.HeatRecipe, measured api.Range) (*course, api.Errno) {
	if e := checkRecipe(w, r); e != api.OK {
		return nil, e
	}
	if !isHardRange(measured) {
		return nil, api.ErrArg
	}
	c := follow(w, r)
	if !c.agree(func(hard int64) bool { return contains(measured, hard) }) {
		return nil, api.ErrSoft
	}
	return c, api.OK
}

// ends returns the ends of each row.
func (c *course) ends() []api.Range {
	var list []api.Range
	for i := range c.rows {
		list = grown(list, c.rows[i].ends())
	}
	return taken(list)
}

// history yields one history that the rows allow, step by step. (Each hardness that agree leaves in a row leads to one in the next row.)
func (c *course) history() iter.Seq[int64] {
	return func(yield func(hard int64) bool) {
		within := c.Bars[c.Bar]
		for i := range c.rows {
			h := c.rows[i].first(within)
			if !yield(h) {
				return
			}
			if i < len(c.Steps) {
				within = after(c.way(i), h)
			}
		}
	}
}
