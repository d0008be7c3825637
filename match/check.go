package match

import (
	"cmp"

	"bolster/api"
)

// areFrom reports whether each number is from least to greatest.
func areFrom[N cmp.Ordered](least, greatest N, numbers ...N) bool {
	for _, n := range numbers {
		if n < least || n > greatest {
			return false
		}
	}
	return true
}

// isThing reports whether a thing is as described.
func isThing(t api.MatchThing) bool {
	return areFrom(0, api.MaxMatchKind, t.Kind, t.Grain) && areFrom(0, api.MaxMatchWeight, t.Weight)
}

// check returns the shelf of a stock, or the error of CheckStock, or ErrRange if numbers are not names of things.
func check(s api.MatchStock, things ...int) (*shelf, api.Errno) {
	if e := CheckStock(s); e != api.OK {
		return nil, e
	}
	if !areFrom(0, len(s.Things)-1, things...) {
		return nil, api.ErrRange
	}
	return newShelf(s), api.OK
}

// checkWithout returns the shelf of a stock, and what is left of it without some things, or the error of CheckStock, or ErrRange if these are not a strictly increasing list of things.
func checkWithout(s api.MatchStock, without []int) (*shelf, set, api.Errno) {
	w, e := check(s, without...)
	if e != api.OK {
		return nil, set{}, e
	}
	for i := range without {
		if i > 0 && without[i-1] >= without[i] {
			return nil, set{}, api.ErrRange
		}
	}
	return w, w.all.without(without...), api.OK
}
