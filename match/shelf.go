package match

import (
	"iter"
	"slices"

	"bolster/api"
)

// set tells of each thing, by its name, whether it is in the set.
type set [api.MaxMatchThings]bool

// has reports whether a thing is in a set.
func (s set) has(thing int) bool { return s[thing] }

// without returns a set without some things.
func (s set) without(things ...int) set {
	for _, thing := range things {
		s[thing] = false
	}
	return s
}

// pair is two things, or two kinds.
type pair struct{ one, two int }

// turned returns a pair in the other order.
func (p pair) turned() pair { return pair{p.two, p.one} }

// shelf holds a valid stock with the set of all its things, and of each thing the set of those that suit it.
type shelf struct {
	api.MatchStock
	all   set
	suits [api.MaxMatchThings]set
}

// newShelf returns the shelf of a valid stock.
func newShelf(s api.MatchStock) *shelf {
	w := &shelf{MatchStock: s}
	for one := range w.Things {
		w.all[one] = true
		for two := range w.Things {
			w.suits[one][two] = w.doSuit(pair{one, two})
		}
	}
	return w
}

// doSuit reports whether two things suit each other.
func (w *shelf) doSuit(p pair) bool {
	one, two := w.Things[p.one], w.Things[p.two]
	if p.one == p.two || !areFrom(-w.Wide, w.Wide, one.Weight-two.Weight) {
		return false
	}
	if one.Grain != two.Grain && one.Grain != 0 && two.Grain != 0 {
		return false
	}
	return w.goTogether(pair{one.Kind, two.Kind})
}

// goTogether reports whether some Mates are two kinds.
func (w *shelf) goTogether(kinds pair) bool {
	for _, m := range w.Mates {
		mates := pair{m[0], m[1]}
		if mates == kinds || mates == kinds.turned() {
			return true
		}
	}
	return false
}

// names yields all things.
func (w *shelf) names() iter.Seq[int] {
	return func(yield func(thing int) bool) {
		for thing := range w.Things {
			if !yield(thing) {
				return
			}
		}
	}
}

// beside yields the things that suit one, of those that may be used.
func (w *shelf) beside(thing int, mayUse func(other int) bool) iter.Seq[int] {
	return func(yield func(other int) bool) {
		for other, suits := range w.suits[thing] {
			if suits && mayUse(other) && !yield(other) {
				return
			}
		}
	}
}

// groups returns the groups of the things that are left.
func (w *shelf) groups(left set) [][]int {
	wait := map[int]bool{}
	for thing := range w.Things {
		if left[thing] {
			wait[thing] = true
		}
	}
	waits := func(thing int) bool { return wait[thing] }
	var groups [][]int
	for thing, ok := first(w.names(), waits); ok; thing, ok = first(w.names(), waits) {
		delete(wait, thing)
		group := []int{thing}
		for at := 0; at < len(group); at++ {
			for other := range w.beside(group[at], waits) {
				delete(wait, other)
				group = grown(group, other)
			}
		}
		slices.Sort(group)
		groups = grown(groups, taken(group))
	}
	return taken(groups)
}

// bound returns the bound of a cut of so many things, without which others are left.
func (w *shelf) bound(cut int, left set) int {
	odd := 0
	for _, group := range w.groups(left) {
		odd += len(group) % 2
	}
	return (len(w.Things) + cut - odd) / 2
}

// isRight reports whether a pairing is right, whose mates are things.
func (w *shelf) isRight(mates []int) bool {
	for thing, mate := range mates {
		if mate == alone {
			continue
		}
		p := pair{thing, mate}
		if !w.suits[p.one][p.two] || p.turned() != (pair{mate, mates[mate]}) {
			return false
		}
	}
	return true
}
