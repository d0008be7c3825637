package rim

import (
	"iter"

	"bolster/api"
)

// spans tells of each pulley from the least to the greatest length at which it is allowed; it is the zero range, which no length is in, of a pulley that is allowed at none.
type spans [api.MaxRimPulleys]api.Range

// wheel holds a valid stone with its pulleys, and where those that are meant are allowed.
type wheel struct {
	api.RimStone
	turns   []int64
	allowed spans
}

// newWheel returns a wheel for which all pulleys are meant.
func newWheel(s api.RimStone, pulleys []int64) *wheel {
	w := &wheel{RimStone: s, turns: pulleys}
	w.use(w.isPulley)
	return w
}

// isPulley reports whether there is a pulley of this index.
func (w *wheel) isPulley(pulley int) bool { return 0 <= pulley && pulley < len(w.turns) }

// use makes these the pulleys that are meant: all others are allowed nowhere.
func (w *wheel) use(meant func(pulley int) bool) {
	clear(w.allowed[:])
	for pulley := range w.turns {
		if meant(pulley) {
			w.allowed[pulley] = w.span(pulley)
		}
	}
}

// span returns between which lengths a pulley is allowed: the stone that is as small as can be true must not run too slowly, and the one that is as great must not run too fast.
func (w *wheel) span(pulley int) api.Range {
	turns := w.turns[pulley]
	r := api.Range{
		Lo: max(w.Short, (w.Speed.Lo+turns-1)/turns+w.Off),
		Hi: min(w.Long, w.Speed.Hi/turns-w.Off),
	}
	if r.Lo > r.Hi {
		return api.Range{}
	}
	return r
}

// bears reports whether a pulley is allowed at a length.
func (w *wheel) bears(pulley int, length int64) bool {
	r := w.allowed[pulley]
	return r.Lo <= length && length <= r.Hi
}

// gap returns the greatest length at which no pulley is allowed, and whether there is one.
func (w *wheel) gap() (int64, bool) {
	if w.allowed == (spans{}) {
		return w.Long, true
	}
	length := w.Long
search:
	for length >= w.Short {
		for pulley, r := range w.allowed {
			if w.bears(pulley, length) {
				length = r.Lo - 1
				continue search
			}
		}
		return length, true
	}
	return 0, false
}

// runs yields runs from a length on, each one with the pulley that goes on farthest, until one of them reaches another length, or a gap.
func (w *wheel) runs(from, down int64) iter.Seq[api.RimRun] {
	return func(yield func(r api.RimRun) bool) {
		begins := w.begins()
		for length := from; length >= down; {
			w.pass(begins, length)
			pulley, ok := leastBy(ready(begins, length), w.least)
			if !ok || !yield(api.RimRun{From: length, Pulley: pulley}) {
				return
			}
			length = w.least(pulley) - 1
		}
	}
}

// least returns the least length at which a pulley is allowed.
func (w *wheel) least(pulley int) int64 { return w.allowed[pulley].Lo }

// begins returns, by the pulley, the greatest length at which it is allowed, of all that are allowed somewhere.
func (w *wheel) begins() map[int]int64 {
	all := map[int]int64{}
	for pulley, r := range w.allowed {
		if r != (api.Range{}) {
			all[pulley] = r.Hi
		}
	}
	return all
}

// pass leaves out the pulleys that are allowed at greater lengths alone: they are not met again.
func (w *wheel) pass(begins map[int]int64, length int64) {
	for pulley := range begins {
		if w.least(pulley) > length {
			delete(begins, pulley)
		}
	}
}

// ready yields, in their order, the pulleys that begin at a length, or began before it.
func ready(begins map[int]int64, length int64) iter.Seq[int] {
	return func(yield func(pulley int) bool) {
		for pulley := range api.MaxRimPulleys {
			begin, waits := begins[pulley]
			if waits && begin >= length && !yield(pulley) {
				return
			}
		}
	}
}

// lasts yields the runs of a plan, each one with the last length to which it goes.
func (w *wheel) lasts(plan []api.RimRun) iter.Seq2[api.RimRun, int64] {
	return func(yield func(r api.RimRun, last int64) bool) {
		for i, r := range plan {
			last := w.Short
			if i+1 < len(plan) {
				last = plan[i+1].From + 1
			}
			if !yield(r, last) {
				return
			}
		}
	}
}

// fewest returns how many runs go from a length down to another one at least, and whether there is no gap between.
func (w *wheel) fewest(from, down int64) (int, bool) {
	count, next := 0, from
	for r := range w.runs(from, down) {
		count++
		next = w.least(r.Pulley) - 1
	}
	return count, next < down
}

// standApart reports whether no pulley is allowed at two points.
func (w *wheel) standApart(points []int64) bool {
	var marks [api.MaxRimPulleys]bool
	for i, point := range points {
		clear(marks[:])
		for pulley := range w.turns {
			if w.bears(pulley, point) {
				marks[pulley] = true
			}
		}
		for _, other := range points[i+1:] {
			for pulley, marked := range marks {
				if marked && w.bears(pulley, other) {
					return false
				}
			}
		}
	}
	return true
}

// kind returns the kind of a pulley, when there is no gap and right plans have so many runs at least.
func (w *wheel) kind(pulley, count int) int {
	r := w.allowed[pulley]
	if r == (api.Range{}) {
		return api.RimNever
	}
	before, _ := w.fewest(w.Long, r.Hi+1)
	after, _ := w.fewest(r.Lo-1, w.Short)
	if before+1+after > count {
		return api.RimNever
	}
	others := newWheel(w.RimStone, w.turns)
	others.use(func(other int) bool { return other != pulley })
	if n, ok := others.fewest(w.Long, w.Short); ok && n == count {
		return api.RimMay
	}
	return api.RimAlways
}
