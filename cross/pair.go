package cross

import (
	"cmp"
	"iter"
	"maps"

	"bolster/api"
)

// spot is a station with its name.
type spot struct {
	api.CrossStation
	name int
}

// row is a height for each station, by its name.
type row [api.MaxCrossStations]api.Ratio

// pair holds a valid pair of blades, and the heights that are looked at.
type pair struct {
	spots   []spot
	heights row
}

// newPair returns a pair without heights.
func newPair(l []api.CrossStation) *pair {
	p := &pair{}
	for name, s := range l {
		p.spots = grown(p.spots, spot{s, name})
	}
	return p
}

// spot returns the station of a name, or ErrRange if there is none.
func (p *pair) spot(name int) (spot, api.Errno) {
	if name < 0 || name >= len(p.spots) {
		return spot{}, api.ErrRange
	}
	return p.spots[name], api.OK
}

// set makes these the heights that are looked at.
func (p *pair) set(height func(s spot) api.Ratio) {
	clear(p.heights[:])
	for _, s := range p.spots {
		p.heights[s.name] = height(s)
	}
}

// height returns the height at a station.
func (p *pair) height(s spot) api.Ratio { return p.heights[s.name] }

// truth is a truth.
type truth []int64

// height tells the heights of a truth.
func (t truth) height(s spot) api.Ratio { return whole(t[s.name]) }

// lowest tells the least heights, highest the greatest ones.
func lowest(s spot) api.Ratio  { return whole(s.High.Lo) }
func highest(s spot) api.Ratio { return whole(s.High.Hi) }

// against tells heights that are not the same ones for one station as for all others. Whether blades touch at a station depends on how high it is against others: with the least height there and the greatest ones elsewhere they do so at each tilt at which they do in any truth, and the other way round at those alone at which they do in each truth.
func against(one spot, its, others func(s spot) api.Ratio) func(s spot) api.Ratio {
	return func(s spot) api.Ratio {
		if s.name == one.name {
			return its(s)
		}
		return others(s)
	}
}

// touched returns the stations at which blades touch at a tilt. Heights are those of a truth, thus whole: how far stations are above the tilt is a whole number when it is counted in parts of the tilt's Den.
func (p *pair) touched(tilt api.Ratio) []int {
	above := map[int]int64{}
	for _, s := range p.spots {
		above[s.name] = p.height(s).Num*tilt.Den - tilt.Num*s.At
	}
	least := leastOf(above[0], maps.Values(above), cmp.Less)
	for name, n := range above {
		if n > least {
			delete(above, name)
		}
	}
	var list []int
	for _, s := range p.spots {
		if _, touches := above[s.name]; touches {
			list = grown(list, s.name)
		}
	}
	return taken(list)
}

// slopes yields the tilts at which a station and another one are as high as each other, for each other one of some.
func (p *pair) slopes(s spot, others []spot) iter.Seq[api.Ratio] {
	return func(yield func(slope api.Ratio) bool) {
		for _, other := range others {
			rise := minus(p.height(other), p.height(s))
			if !yield(inLeastTerms(rise.Num, rise.Den*(other.At-s.At))) {
				return
			}
		}
	}
}

// tilts returns from the least to the greatest tilt at which blades touch at a station, or ErrGape if there is none: no tilt may be less than the slope from an earlier station, or greater than that to a later one. (No slope is beyond what a tilt can be.)
func (p *pair) tilts(s spot) (api.CrossSpan, api.Errno) {
	span := api.CrossSpan{
		Lo: leastOf(whole(-api.MaxCrossTilt), p.slopes(s, p.spots[:s.name]), isMore),
		Hi: leastOf(whole(api.MaxCrossTilt), p.slopes(s, p.spots[s.name+1:]), isLess),
	}
	if isLess(span.Hi, span.Lo) {
		return api.CrossSpan{}, api.ErrGape
	}
	return span, api.OK
}

// round yields all pairs of an earlier station than one and a later one.
func (p *pair) round(s spot) iter.Seq2[spot, spot] {
	return func(yield func(before, after spot) bool) {
		for _, before := range p.spots[:s.name] {
			for _, after := range p.spots[s.name+1:] {
				if !yield(before, after) {
					return
				}
			}
		}
	}
}

// line returns how high the line from a station to a later one is at a station between them.
func (p *pair) line(before, s, after spot) api.Ratio {
	one, two := p.height(before), p.height(after)
	num := one.Num*two.Den*(after.At-s.At) + two.Num*one.Den*(s.At-before.At)
	return inLeastTerms(num, one.Den*two.Den*(after.At-before.At))
}

// lines yields how high all lines from an earlier station than one to a later one are there.
func (p *pair) lines(s spot) iter.Seq[api.Ratio] {
	return func(yield func(line api.Ratio) bool) {
		for before, after := range p.round(s) {
			if !yield(p.line(before, s, after)) {
				return
			}
		}
	}
}

// isAbove reports whether the height of a station is above any line there.
func (p *pair) isAbove(s spot) bool {
	for line := range p.lines(s) {
		if isLess(line, p.height(s)) {
			return true
		}
	}
	return false
}

// left returns how high a station is once what is ground there is taken away. Heights are those of a truth, thus whole.
func (p *pair) left(s spot) api.Ratio { return leastOf(p.height(s), p.lines(s), isLess) }

// ground returns what is ground at a station.
func (p *pair) ground(s spot) api.Ratio { return minus(p.height(s), p.left(s)) }

// grounds returns from the least to the greatest number that is ground at a station in some truth.
func (p *pair) grounds(s spot) api.CrossSpan {
	p.set(against(s, lowest, highest))
	least := p.ground(s)
	p.set(against(s, highest, lowest))
	return api.CrossSpan{Lo: least, Hi: p.ground(s)}
}

// kind returns the kind of a station.
func (p *pair) kind(s spot) int {
	span, nothing := p.grounds(s), whole(0)
	switch {
	case span.Hi == nothing:
		return api.CrossAlways
	case span.Lo == nothing:
		return api.CrossMay
	}
	return api.CrossNever
}

// wedge returns the first wedge, or three zeros if there is none.
func (p *pair) wedge() [3]int {
	var found [3]int
	p.set(highest)
search:
	for _, first := range p.spots {
		for _, second := range p.spots[first.name+1:] {
			for _, third := range p.spots[second.name+1:] {
				if isLess(p.line(first, second, third), lowest(second)) {
					found = [3]int{first.name, second.name, third.name}
					break search
				}
			}
		}
	}
	return found
}
