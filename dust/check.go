package dust

import (
	"cmp"
	"slices"

	"bolster/api"
)

// areFrom reports whether each number is from least to greatest.
func areFrom[N cmp.Ordered](least, greatest N, numbers ...N) bool {
	for _, n := range numbers {
		if n < least || n > greatest {
			return false
		}
	}
	return true
}

// areWorks reports whether each number is the name of a work of a shop.
func areWorks(s api.DustShop, numbers ...int) bool { return areFrom(0, len(s.Dust)-1, numbers...) }

// areFollows reports whether Follows are pairs of works, no pair twice.
func areFollows(s api.DustShop) bool {
	for i, pair := range s.Follows {
		if !areWorks(s, pair[:]...) || slices.Contains(s.Follows[:i], pair) {
			return false
		}
	}
	return true
}

// areFirst reports whether First is a strictly increasing list of at least one work.
func areFirst(s api.DustShop) bool {
	for i, work := range s.First {
		if !areWorks(s, work) || i > 0 && s.First[i-1] >= work {
			return false
		}
	}
	return len(s.First) > 0
}

// isBound reports whether a ratio is as levels can have it.
func isBound(r api.Ratio) bool {
	return areFrom(1, api.MaxDustWorks, r.Den) && areFrom(0, r.Den*api.MaxDustDust, r.Num)
}

// check returns a shop with what is reached, or the error of CheckShop, or ErrArg if hours are too few or too many.
func check(s api.DustShop, hours ...int) (*shop, api.Errno) {
	if err := CheckShop(s); err != api.OK {
		return nil, err
	}
	if !areFrom(1, api.MaxDustHours, hours...) {
		return nil, api.ErrArg
	}
	return newShop(s), api.OK
}

// checkWorks returns a shop, or the error of CheckShop, or ErrMany or ErrRange if a list is too short or too long for a run, or not one of works.
func checkWorks(s api.DustShop, list []int) (*shop, api.Errno) {
	w, err := check(s)
	if err != api.OK {
		return nil, err
	}
	if !areFrom(1, api.MaxDustLong, len(list)) {
		return nil, api.ErrMany
	}
	if !areWorks(s, list...) {
		return nil, api.ErrRange
	}
	return w, api.OK
}

// checkRuns returns the course of the runs of so many hours, or the error of check, or ErrNone if there are no such runs.
func checkRuns(s api.DustShop, hours int) (*course, api.Errno) {
	w, err := check(s, hours)
	if err != api.OK {
		return nil, err
	}
	c := w.runs(hours)
	if c.begun() == noRuns() {
		return nil, api.ErrNone
	}
	return c, api.OK
}

// checkRound returns a shop with a round of the greatest mean, or the error of check, or ErrNone if there is no round.
func checkRound(s api.DustShop) (*shop, []int, api.Errno) {
	w, err := check(s)
	if err != api.OK {
		return nil, nil, err
	}
	round, ok := greatest(w.rounds(), w.compareMeans)
	if !ok {
		return nil, nil, api.ErrNone
	}
	return w, round, api.OK
}
