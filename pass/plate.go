package pass

import (
	"iter"
	"slices"

	"bolster/api"
)

// position tells how many passes of each edge are done; it is 0 where a job has no edge.
type position [api.MaxPassRows]int

// plate holds a valid job with its last position, and which heats of a step are allowed.
type plate struct {
	api.PassJob
	last    position
	allowed func(heat int64) bool
}

// newPlate returns a plate on which each heat is allowed.
func newPlate(j api.PassJob) *plate {
	w := &plate{PassJob: j, allowed: func(int64) bool { return true }}
	for row, passes := range w.Rows {
		w.last[row] = len(passes)
	}
	return w
}

// within returns what allows the heats up to a limit.
func within(limit int64) func(heat int64) bool {
	return func(heat int64) bool { return heat <= limit }
}

// isName reports whether a name is that of a pass.
func (w *plate) isName(pass api.PassName) bool {
	return areFrom(0, len(w.Rows)-1, pass.Row) && areFrom(0, len(w.Rows[pass.Row])-1, pass.Index)
}

// place returns the position that a list is, and whether it is one.
func (w *plate) place(list []int) (position, bool) {
	var p position
	if len(list) != len(w.Rows) {
		return p, false
	}
	for row, n := range list {
		if !areFrom(0, w.last[row], n) {
			return position{}, false
		}
		p[row] = n
	}
	return p, true
}

// heat returns the heat of a position.
func (w *plate) heat(p position) int64 {
	heat := w.Start
	for row, passes := range w.Rows {
		for _, pass := range passes[:p[row]] {
			heat += pass.Leaves
		}
	}
	return heat
}

// all yields all positions in lexicographic order: each step leads to a later one.
func (w *plate) all() iter.Seq[position] {
	return func(yield func(p position) bool) {
		var p position
	next:
		for yield(p) {
			for row := range slices.Backward(w.Rows) {
				if p[row] < w.last[row] {
					p[row]++
					clear(p[row+1:])
					continue next
				}
			}
			return
		}
	}
}

// before tells of each position in how many ways allowed steps lead to it.
func (w *plate) before() map[position]int64 {
	ways := map[position]int64{{}: 1}
	for p := range w.all() {
		if ways[p] == 0 {
			continue
		}
		for s := range w.steps(p) {
			ways[s.to] += ways[p]
		}
	}
	return ways
}

// after tells of each position in how many ways allowed steps lead from it to the last one.
func (w *plate) after() map[position]int64 {
	ways := map[position]int64{w.last: 1}
	for _, p := range slices.Backward(slices.Collect(w.all())) {
		for s := range w.steps(p) {
			ways[p] += ways[s.to]
		}
	}
	return ways
}

// doing returns the steps by which a pass is done in all orders whose heats are allowed, or ErrBlue if there is no such order.
func (w *plate) doing(pass api.PassName) ([]step, api.Errno) {
	before, after := w.before(), w.after()
	var steps []step
	for p := range w.all() {
		if p[pass.Row] != pass.Index || before[p] == 0 {
			continue
		}
		s := w.step(p, pass.Row)
		if !w.isTooHot(s) && after[s.to] > 0 {
			steps = append(steps, s)
		}
	}
	if len(steps) == 0 {
		return nil, api.ErrBlue
	}
	return steps, api.OK
}

// best returns an order that becomes as little hot as any, and how hot that is. The coldest step that waits is always done next: when the hottest one of all these is done, the others that wait are at least as hot, and each order does one of them.
func (w *plate) best() ([]int, int64) {
	orders := map[position][]int{{}: nil}
	waiting := map[position]step{}
	here, heat := position{}, w.Start // the first step is at least as hot: no Peak is below 0
	for here != w.last {
		for s := range w.steps(here) {
			if _, reached := orders[s.to]; !reached {
				waiting[s.to] = colder(waiting[s.to], s)
			}
		}
		s := coldest(waiting)
		delete(waiting, s.to)
		orders[s.to] = grown(orders[s.from], s.row)
		here, heat = s.to, max(heat, s.heat)
	}
	return taken(orders[w.last]), heat
}

// bound returns the least heat of a step that leaves a barrier.
func (w *plate) bound(barrier map[position]bool) int64 {
	var least step
	for p := range barrier {
		for s := range w.steps(p) {
			if !barrier[s.to] {
				least = colder(least, s)
			}
		}
	}
	return least.heat
}
