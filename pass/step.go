package pass

import (
	"iter"
	"slices"
)

// step does the next pass of an edge. The zero step stands for none: no step leads to the first position.
type step struct {
	from, to position
	row      int
	heat     int64
}

// step returns the step from a position that does the next pass of an edge which has one left.
func (w *plate) step(from position, row int) step {
	s := step{from: from, to: from, row: row, heat: w.heat(from) + w.Rows[row][from[row]].Peak}
	s.to[row]++
	return s
}

// steps yields the allowed steps from a position.
func (w *plate) steps(from position) iter.Seq[step] {
	return func(yield func(s step) bool) {
		for row := range w.Rows {
			if from[row] == w.last[row] {
				continue
			}
			s := w.step(from, row)
			if !w.isTooHot(s) && !yield(s) {
				return
			}
		}
	}
}

// isTooHot reports whether the heat of a step is not allowed.
func (w *plate) isTooHot(s step) bool { return !w.allowed(s.heat) }

// along yields the steps of an order, whatever is allowed.
func (w *plate) along(order []int) iter.Seq[step] {
	return func(yield func(s step) bool) {
		var here position
		for _, row := range order {
			s := w.step(here, row)
			if !yield(s) {
				return
			}
			here = s.to
		}
	}
}

// colder returns the colder one of two steps, and the second one if the first one is none. Of steps that are as hot as each other it is the one to the later position, which is nearer to the last one: so which one is the coldest of many does not depend on the order in which they are looked at.
func colder(one, two step) step {
	if one == (step{}) || two.heat < one.heat {
		return two
	}
	if two.heat == one.heat && slices.Compare(two.to[:], one.to[:]) > 0 {
		return two
	}
	return one
}

// coldest returns the coldest one of the steps that wait.
func coldest(waiting map[position]step) step {
	var best step
	for _, s := range waiting {
		best = colder(best, s)
	}
	return best
}
