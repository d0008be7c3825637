package dust

import (
	"iter"
	"slices"

	"bolster/api"
)

// marks tells of each work whether it is marked.
type marks [api.MaxDustWorks]bool

// shop holds a valid shop with the works that are reached.
type shop struct {
	api.DustShop
	reached marks
}

// newShop returns a shop with the works that are reached. (A work that is reached is so by a list that has no work twice: as many steps as there are works lead to all of them.)
func newShop(s api.DustShop) *shop {
	w := &shop{DustShop: s}
	for _, work := range s.First {
		w.reached[work] = true
	}
	for range s.Dust {
		for _, pair := range s.Follows {
			if w.reached[pair[0]] {
				w.reached[pair[1]] = true
			}
		}
	}
	return w
}

// isReached reports whether a work is reached, isFirst whether plans can begin with it.
func (s *shop) isReached(work int) bool { return s.reached[work] }
func (s *shop) isFirst(work int) bool   { return slices.Contains(s.First, work) }

// works yields the works that are meant, increasing.
func (s *shop) works(meant func(work int) bool) iter.Seq[int] {
	return func(yield func(work int) bool) {
		for work := range s.Dust {
			if meant(work) && !yield(work) {
				return
			}
		}
	}
}

// next yields those works that are meant of the ones that may follow a work.
func (s *shop) next(work int, meant func(work int) bool) iter.Seq[int] {
	return func(yield func(work int) bool) {
		for _, pair := range s.Follows {
			if pair[0] == work && meant(pair[1]) && !yield(pair[1]) {
				return
			}
		}
	}
}

// isInOrder reports whether the first work of a list can be that, and each other one may follow the one before.
func (s *shop) isInOrder(list []int, canBegin func(work int) bool) bool {
	for i, work := range list {
		if i == 0 && !canBegin(work) || i > 0 && !slices.Contains(s.Follows, [2]int{list[i-1], work}) {
			return false
		}
	}
	return true
}

// sum returns the dust of works together.
func (s *shop) sum(works []int) int64 {
	sum := int64(0)
	for _, work := range works {
		sum += s.Dust[work]
	}
	return sum
}

// areRight reports whether tops are right, each list of which has a number for each work.
func (s *shop) areRight(tops [][]int64) bool {
	for work, dust := range s.Dust {
		if tops[0][work] < dust {
			return false
		}
	}
	for i, list := range tops[1:] {
		for _, pair := range s.Follows {
			after := tops[i][pair[1]]
			if after != none && list[pair[0]] < s.Dust[pair[0]]+after {
				return false
			}
		}
	}
	return true
}

// prove reports whether levels prove a bound.
func (s *shop) prove(bound api.Ratio, levels []int64) bool {
	for _, pair := range s.Follows {
		gain := bound.Den*s.Dust[pair[0]] - bound.Num
		if s.isReached(pair[0]) && gain > levels[pair[0]]-levels[pair[1]] {
			return false
		}
	}
	return true
}
