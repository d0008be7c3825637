package hone

import "bolster/api"

// row tells of each burr how many depths, from 0 on, an edge in it can have: one more than the greatest depth, so that no edge is in the zero row.
type row [api.MaxHoneBurr + 1]int

// reaches tells which edges are at least as keen as a goal.
func reaches(goal api.HoneEdge) func(e api.HoneEdge) bool {
	return func(e api.HoneEdge) bool { return e.Depth <= goal.Depth && e.Burr <= goal.Burr }
}

// firstRow returns the row of the edges that have reached a goal.
func firstRow(reached func(e api.HoneEdge) bool) row {
	var r row
	for burr := range r {
		for r[burr] <= api.MaxHoneDepth && reached(api.HoneEdge{Depth: r[burr], Burr: burr}) {
			r[burr]++
		}
	}
	return r
}

// rowOf returns the row that a list is, and whether it is one.
func rowOf(list []int) (row, bool) {
	var r row
	if len(list) != len(r) || !areFrom(-1, api.MaxHoneDepth, list...) {
		return row{}, false
	}
	for burr, depth := range list {
		if burr > 0 && depth > list[burr-1] {
			return row{}, false
		}
		r[burr] = depth + 1
	}
	return r, true
}

// rowsOf returns the rows that lists are, and whether all of them are rows.
func rowsOf(lists ...[]int) ([]row, bool) {
	rows := make([]row, len(lists))
	for i, list := range lists {
		r, ok := rowOf(list)
		if !ok {
			return nil, false
		}
		rows[i] = r
	}
	return rows, true
}

// list returns a row as a result.
func (r row) list() []int {
	list := make([]int, len(r))
	for burr, depths := range r {
		list[burr] = depths - 1
	}
	return list
}

// has reports whether an edge is in a row.
func (r row) has(e api.HoneEdge) bool { return e.Depth < r[e.Burr] }

// isIn reports whether each edge of a row is in another one.
func (r row) isIn(other row) bool { return r.with(other) == other }

// with returns the row of all edges that are in one of two rows.
func (r row) with(other row) row {
	for burr, depths := range other {
		r[burr] = max(r[burr], depths)
	}
	return r
}
