package keen

import (
	"iter"

	"bolster/api"
)

// none stands in place of an edge for what is as sharp as 0, and in place of a test for what any edge can be.
const none = -1

// web holds a valid book with its links, and, once it is known that the tests agree, the trails from none and from each edge.
type web struct {
	api.KeenBook
	trails []*trail
}

// links yields all links, each one with its worth.
func (w *web) links() iter.Seq2[api.KeenLink, int64] {
	return func(yield func(link api.KeenLink, worth int64) bool) {
		for i, t := range w.Tests {
			if !yield(api.KeenLink{From: t.Two, To: t.One, Test: i}, t.Diff.Hi) {
				return
			}
			if !yield(api.KeenLink{From: t.One, To: t.Two, Test: i}, -t.Diff.Lo) {
				return
			}
		}
		for edge := range w.Edges {
			if !yield(api.KeenLink{From: none, To: edge, Test: none}, api.MaxKeenSharp) {
				return
			}
			if !yield(api.KeenLink{From: edge, To: none, Test: none}, 0) {
				return
			}
		}
	}
}

// worth returns the worth of a link, and whether it is one.
func (w *web) worth(link api.KeenLink) (int64, bool) {
	for one, worth := range w.links() {
		if one == link {
			return worth, true
		}
	}
	return 0, false
}

// follow follows the links from an edge, or from none, round by round, until a round changes no bound, and reports whether one did so in time. If the tests agree, no chain is worth less than one that is nowhere twice: this has at most as many links as there are edges, so that as many rounds suffice, and one more changes nothing.
func (w *web) follow(from int) (*trail, bool) {
	t := newTrail(from)
	for range w.Edges + 1 {
		before := t.bounds
		clear(t.marks[:])
		for link, worth := range w.links() {
			t.follow(link, worth)
		}
		if t.bounds == before {
			return t, true
		}
	}
	return t, false
}

// trail returns the trail from an edge, or from none.
func (w *web) trail(from int) *trail { return w.trails[place(from)] }

// greatest returns the greatest difference of two edges; with none as the second one it is how sharp the first one is at most.
func (w *web) greatest(one, two int) int64 { return w.trail(two).bound(one) }

// least returns the least difference of two edges, or how sharp one is at least.
func (w *web) least(one, two int) int64 { return -w.greatest(two, one) }

// span returns the ends of the differences of two edges, or of the sharpness of one.
func (w *web) span(one, two int) api.Range {
	return api.Range{Lo: w.least(one, two), Hi: w.greatest(one, two)}
}

// sharpest returns the edges whose differences with all others, of the kind that is meant, are not below 0. (If an edge can be as sharp as each other one, it can be as sharp as all of them at once: what says so is links from this edge, and a circle that is nowhere twice has one of them at most.)
func (w *web) sharpest(difference func(one, two int) int64) []int {
	var list []int
next:
	for one := range w.Edges {
		for two := range w.Edges {
			if difference(one, two) < 0 {
				continue next
			}
		}
		list = grown(list, one)
	}
	return taken(list)
}

// pair is two edges, the first one less than the second one.
type pair struct{ one, two int }

// pairs yields all pairs in lexicographic order.
func (w *web) pairs() iter.Seq[pair] {
	return func(yield func(p pair) bool) {
		for one := range w.Edges {
			for two := one + 1; two < w.Edges; two++ {
				if !yield(pair{one, two}) {
					return
				}
			}
		}
	}
}

// width returns how far the ends of the span of a pair are apart.
func (w *web) width(p pair) int64 {
	r := w.span(p.one, p.two)
	return r.Hi - r.Lo
}
