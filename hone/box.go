package hone

import (
	"iter"

	"bolster/api"
)

// box holds the stones of a valid box, or those that are left of it when one was given away.
type box struct{ stones []api.HoneStone }

// stroke returns an edge after a stroke, and whether this can be made.
func (b box) stroke(e api.HoneEdge, stone int) (api.HoneEdge, bool) {
	s := b.stones[stone]
	if e.Burr+s.Burr > api.MaxHoneBurr {
		return api.HoneEdge{}, false
	}
	return api.HoneEdge{Depth: max(s.Grit, e.Depth-s.Cut), Burr: max(0, e.Burr+s.Burr)}, true
}

// strokes yields the strokes that lead from an edge to one that is meant, each one with the edge after it.
func (b box) strokes(e api.HoneEdge, meant func(e api.HoneEdge) bool) iter.Seq2[int, api.HoneEdge] {
	return func(yield func(stone int, after api.HoneEdge) bool) {
		for stone := range b.stones {
			after, ok := b.stroke(e, stone)
			if ok && meant(after) && !yield(stone, after) {
				return
			}
		}
	}
}

// depths yields, for each stone over which some stroke leads from an edge of a burr into a row, how many depths such an edge can have. (If the one of depth 0 comes into the row, which is left as deep as Grit, so do all that Cut takes into it.)
func (b box) depths(burr int, into row) iter.Seq[int] {
	return func(yield func(depths int) bool) {
		for stone, after := range b.strokes(api.HoneEdge{Burr: burr}, into.has) {
			if !yield(min(into[after.Burr]+b.stones[stone].Cut, api.MaxHoneDepth+1)) {
				return
			}
		}
	}
}

// lead makes a row that of all edges from which some stroke leads into another one.
func (b box) lead(r *row, into row) {
	clear(r[:])
	for burr := range r {
		if depths, ok := greatest(b.depths(burr, into)); ok {
			r[burr] = depths
		}
	}
}

// widen yields the rows of a goal: that of no strokes, and so on up to the last one.
func (b box) widen(reached func(e api.HoneEdge) bool) iter.Seq[row] {
	return func(yield func(r row) bool) {
		var lead row
		for r := firstRow(reached); yield(r); {
			b.lead(&lead, r)
			next := r.with(lead)
			if next == r {
				return
			}
			r = next
		}
	}
}

// far returns the row of so many strokes of a goal: it is the last one, if this comes before.
func (b box) far(reached func(e api.HoneEdge) bool, strokes int) row {
	var far row
	for r := range b.widen(reached) {
		far = r
		if strokes == 0 {
			break
		}
		strokes--
	}
	return far
}

// prove reports whether rows prove that an edge needs at least as many strokes.
func (b box) prove(e api.HoneEdge, reached func(e api.HoneEdge) bool, rows ...row) bool {
	lead := firstRow(reached)
	for _, r := range rows {
		if !lead.isIn(r) || r.has(e) {
			return false
		}
		b.lead(&lead, r)
	}
	return true
}
