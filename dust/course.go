package dust

import (
	"cmp"
	"iter"

	"bolster/api"
)

// none is the number of a work with which no run of so many works begins.
const none = -1

// row tells of each work, reached or not, the most dust of runs of so many works that begin with it, or none.
type row [api.MaxDustWorks]int64

// noRuns returns the row of a number of works for which there are no runs.
func noRuns() row {
	var r row
	for work := range r {
		r[work] = none
	}
	return r
}

// rowOf returns the row that a list of a number for each work is.
func rowOf(list []int64) row {
	r := noRuns()
	copy(r[:], list)
	return r
}

// has reports whether a run begins with a work.
func (r row) has(work int) bool { return r[work] != none }

// compare compares two works by their numbers.
func (r row) compare(one, other int) int { return cmp.Compare(r[one], r[other]) }

// hour is a work behind which a run has so many left.
type hour struct{ work, left int }

// course holds a shop with rows, by how many works are left behind the first one, and by which work the run with the most dust goes on in each hour.
type course struct {
	*shop
	rows []row
	on   map[hour]int
}

// course returns a course whose runs become longer so many times, from what the last work counts for.
func (s *shop) course(last row, times int) *course {
	c := &course{shop: s, rows: []row{last}, on: map[hour]int{}}
	for range times {
		c.lengthen()
	}
	return c
}

// lengthen adds a row of runs that are one work longer.
func (c *course) lengthen() {
	left := len(c.rows)
	before, longer := c.rows[left-1], noRuns()
	for work, dust := range c.Dust {
		if next, ok := greatest(c.next(work, before.has), before.compare); ok {
			longer[work] = dust + before[next]
			c.on[hour{work, left}] = next
		}
	}
	c.rows = append(c.rows, longer)
}

// runs returns the course of the runs of so many hours.
func (s *shop) runs(hours int) *course { return s.course(rowOf(s.Dust), hours-1) }

// begun returns the last row, with the works alone that are reached: with no other one a run begins.
func (c *course) begun() row {
	r := c.rows[len(c.rows)-1]
	for work, reached := range c.reached {
		if !reached {
			r[work] = none
		}
	}
	return r
}

// run yields the works of the run with the most dust, of the longest ones that begin with a work, and takes its hours out.
func (c *course) run(work int) iter.Seq[int] {
	return func(yield func(work int) bool) {
		at := hour{work, len(c.rows) - 1}
		for yield(at.work) {
			next, ok := c.on[at]
			if !ok {
				return
			}
			delete(c.on, at)
			at = hour{next, at.left - 1}
		}
	}
}
