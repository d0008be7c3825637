package match

import "bolster/api"

// tally is how many pairs best pairings of some things have, and how many such pairings there are.
type tally struct {
	pairs int
	count int64
}

// paired returns the tally of the same pairings with one pair more in each of them.
func (t tally) paired() tally {
	t.pairs++
	return t
}

// or returns the tally of the pairings of one tally and of another one, which are different ones.
func (t tally) or(other tally) tally {
	switch {
	case t.pairs > other.pairs:
		return t
	case t.pairs < other.pairs:
		return other
	}
	return tally{t.pairs, t.count + other.count}
}

// ledger holds a shelf with the tallies of those of its things that were looked at.
type ledger struct {
	*shelf
	tallies map[set]tally
}

// newLedger returns a ledger without tallies.
func newLedger(w *shelf) *ledger { return &ledger{w, map[set]tally{}} }

// tally returns the tally of the things that are left. The first one of them is alone, or has one of the others as its mate.
func (l *ledger) tally(left set) tally {
	thing, ok := first(l.names(), left.has)
	if !ok {
		return tally{count: 1}
	}
	if t, known := l.tallies[left]; known {
		return t
	}
	t := l.tally(left.without(thing))
	for mate := range l.beside(thing, left.has) {
		t = t.or(l.tally(left.without(thing, mate)).paired())
	}
	l.tallies[left] = t
	return t
}

// kind returns the kind of a pair of things.
func (l *ledger) kind(p pair) int {
	if !l.suits[p.one][p.two] {
		return api.MatchNever
	}
	all := l.tally(l.all)
	with := l.tally(l.all.without(p.one, p.two)).paired()
	switch {
	case with == all:
		return api.MatchAlways
	case with.pairs == all.pairs:
		return api.MatchMay
	}
	return api.MatchNever
}
