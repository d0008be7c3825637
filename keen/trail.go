package keen

import (
	"iter"
	"math"
	"slices"

	"bolster/api"
)

// far is the bound of an edge to which no link has led yet.
const far = math.MaxInt64

// places is how many places there are: one for none, and one for each edge.
const places = 1 + api.MaxKeenEdges

// place returns the place of an edge, or of none, and edgeAt which one has a place.
func place(edge int) int   { return edge + 1 }
func edgeAt(place int) int { return place - 1 }

// bounds tells, by the place, how much sharper each edge can be at most than where a trail begins.
type bounds [places]int64

// trail is what is found as links are followed: the bounds, by which link each edge was bounded last, and which ones are bounded in this round.
type trail struct {
	bounds bounds
	by     map[int]api.KeenLink
	marks  [places]bool
}

// newTrail returns a trail that begins at an edge, or at none, before any link is followed.
func newTrail(from int) *trail {
	t := &trail{by: map[int]api.KeenLink{}}
	for i := range t.bounds {
		t.bounds[i] = far
	}
	t.bounds[place(from)] = 0
	return t
}

// bound returns how much sharper an edge can be at most, or none.
func (t *trail) bound(edge int) int64 { return t.bounds[place(edge)] }

// follow follows a link, if a bound is known where it begins, and keeps it if it leads to a closer bound.
func (t *trail) follow(link api.KeenLink, worth int64) {
	start := t.bound(link.From)
	if start == far || start+worth >= t.bound(link.To) {
		return
	}
	t.bounds[place(link.To)] = start + worth
	t.by[link.To] = link
	t.marks[place(link.To)] = true
}

// back yields the links that lead to an edge, the last one first, and takes them out.
func (t *trail) back(edge int) iter.Seq[api.KeenLink] {
	return func(yield func(link api.KeenLink) bool) {
		for at := edge; ; {
			link, ok := t.by[at]
			if !ok {
				return
			}
			delete(t.by, at)
			if !yield(link) {
				return
			}
			at = link.From
		}
	}
}

// chain returns the links by which an edge is bounded, when the tests agree: none of them leads to where the trail begins.
func (t *trail) chain(to int) []api.KeenLink {
	var back []api.KeenLink
	for link := range t.back(to) {
		back = grown(back, link)
	}
	return forth(back)
}

// circle returns a circle, when each round changed a bound. A link bounds an edge anew only if the one where it begins was bounded in the same round, or in the round before: so there are at least as many links back from an edge that is marked as there were rounds, one for each edge and one for none, and they come to where they have been.
func (t *trail) circle() []api.KeenLink {
	var back []api.KeenLink
	last := edgeAt(slices.Index(t.marks[:], true))
search:
	for link := range t.back(last) {
		back = grown(back, link)
		for i, met := range back {
			if met.To == link.From {
				back = back[i:]
				break search
			}
		}
	}
	circle := forth(back)
	if circle[0].From == none { // a circle begins with an edge
		return taken(grown(circle[1:], circle[0]))
	}
	return circle
}

// forth returns links that were found backwards in the order of a chain.
func forth(back []api.KeenLink) []api.KeenLink {
	chain := taken(back)
	slices.Reverse(chain)
	return chain
}

// truth returns how sharp each of so many edges is when all of them are as much sharper than where the trail begins as they can be.
func (t *trail) truth(edges int) []int64 {
	truth := make([]int64, edges)
	for edge := range truth {
		truth[edge] = t.bound(edge) - t.bound(none)
	}
	return truth
}
