package warp

import (
	"iter"

	"bolster/api"
)

// maxBend is the greatest amount of a bend by which a station can be straight: an angle to one side, and a tolerance to the other one.
const maxBend = 2 * api.MaxWarpAngle

// price is what some blows cost; its zero value stands for what cannot be.
type price struct {
	can  bool
	cost int64
}

// row tells of each bend what blows cost that have it, or that go on from it.
type row [2*maxBend + 1]price

func (r *row) can(bend int64) bool   { return r[bend+maxBend].can }
func (r *row) cost(bend int64) int64 { return r[bend+maxBend].cost }

// offer notes that a bend can be had at a cost, unless it is had for less already.
func (r *row) offer(bend, cost int64) {
	p := &r[bend+maxBend]
	if !p.can || cost < p.cost {
		*p = price{true, cost}
	}
}

// bends yields the bends within a tube that can be had.
func (r *row) bends(tube api.Range) iter.Seq[int64] {
	return func(yield func(bend int64) bool) {
		for bend := range each(tube) {
			if r.can(bend) && !yield(bend) {
				return
			}
		}
	}
}

// each yields all numbers of a range.
func each(all api.Range) iter.Seq[int64] {
	return func(yield func(number int64) bool) {
		for n := all.Lo; n <= all.Hi; n++ {
			if !yield(n) {
				return
			}
		}
	}
}
