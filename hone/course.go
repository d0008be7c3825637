package hone

import (
	"iter"

	"bolster/api"
)

// course holds a box with those rows of a goal that an edge is not in: they are as many as the strokes that it needs.
type course struct {
	box
	rows []row
}

// course returns the course of an edge to a goal, and whether it can reach it.
func (b box) course(e api.HoneEdge, reached func(e api.HoneEdge) bool) (*course, bool) {
	c := &course{box: b}
	for r := range b.widen(reached) {
		if r.has(e) {
			return c, true
		}
		c.rows = append(c.rows, r)
	}
	return nil, false
}

// onward yields the strokes of an edge that needs so many, after which it needs one less.
func (c *course) onward(e api.HoneEdge, needs int) iter.Seq2[int, api.HoneEdge] {
	return func(yield func(stone int, after api.HoneEdge) bool) {
		if needs == 0 {
			return
		}
		c.strokes(e, c.rows[needs-1].has)(yield)
	}
}

// best returns the fewest strokes of the edge, the first ones in lexicographic order.
func (c *course) best(e api.HoneEdge) []int {
	var strokes []int
search:
	for {
		for stone, after := range c.onward(e, len(c.rows)-len(strokes)) {
			strokes, e = grown(strokes, stone), after
			continue search
		}
		return taken(strokes)
	}
}

// ends returns the stones with which some fewest strokes of the edge end. (All edges that need as many strokes wait one behind another; what leads on leads to those that need one less. So an edge that is behind is not met again.)
func (c *course) ends(e api.HoneEdge) []int {
	var marks [api.MaxHoneStones]bool
	needs := map[api.HoneEdge]int{e: len(c.rows)}
	for wait := []api.HoneEdge{e}; len(wait) > 0; wait = wait[1:] {
		edge := wait[0]
		left := needs[edge]
		delete(needs, edge)
		for stone, after := range c.onward(edge, left) {
			if left == 1 {
				marks[stone] = true
			}
			if _, waits := needs[after]; !waits {
				needs[after] = left - 1
				wait = append(wait, after)
			}
		}
	}
	var ends []int
	for stone, marked := range marks {
		if marked {
			ends = grown(ends, stone)
		}
	}
	return taken(ends)
}
