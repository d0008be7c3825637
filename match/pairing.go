package match

import (
	"slices"

	"bolster/api"
)

// alone stands in place of the mate of a thing that has none.
const alone = -1

// pairing holds a shelf with a right pairing of its things, and what a search has found: the ways to things, and those to which ways lead, in the order in which they were found.
type pairing struct {
	*shelf
	mates   []int
	ways    [api.MaxMatchThings][]int
	reached []int
}

// best returns a best pairing. A thing from which no longer way leads when it is looked at has none later either.
func (w *shelf) best() *pairing {
	p := &pairing{shelf: w, mates: slices.Repeat([]int{alone}, len(w.Things))}
	for thing := range p.Things {
		if p.mates[thing] == alone {
			p.turn(p.search(thing))
		}
	}
	return p
}

// pairs returns how many pairs a list of mates has.
func pairs(mates []int) int {
	mated := 0
	for _, mate := range mates {
		if mate != alone {
			mated++
		}
	}
	return mated / 2
}

// turn makes the first two things of a longer way a pair, the next two, and so on: these are one pair more than it had.
func (p *pairing) turn(way []int) {
	for two := range slices.Chunk(way, 2) {
		p.mates[two[0]], p.mates[two[1]] = two[1], two[0]
	}
}

// search looks for a longer way from a thing that is alone, and returns it if there is one. A way leads from a thing to one that suits it and is not its mate, from there to that one's mate, and so on, and nowhere twice; each thing at which it can end can be alone in place of the first one. It is a longer one if it leads to another thing that is alone.
func (p *pairing) search(start int) []int {
	clear(p.ways[:])
	p.reached = nil
	p.reach([]int{start})
	var longer []int
search:
	for at := 0; at < len(p.reached); at++ {
		thing := p.reached[at]
		for other := range p.beside(thing, p.isNoMateOf(thing)) {
			switch mate := p.mates[other]; {
			case p.ways[other] != nil:
				p.round(thing, other)
				p.round(other, thing)
			case mate == alone:
				longer = grown(p.ways[thing], other)
				break search
			default:
				p.reach(grown(p.ways[thing], other, mate))
			}
		}
	}
	return longer
}

// isNoMateOf tells which things are not the mate of one.
func (p *pairing) isNoMateOf(thing int) func(other int) bool {
	return func(other int) bool { return other != p.mates[thing] }
}

// reach keeps a way to a thing, if it is the first one that leads there.
func (p *pairing) reach(way []int) {
	end := way[len(way)-1]
	if p.ways[end] == nil {
		p.ways[end] = way
		p.reached = grown(p.reached, end)
	}
}

// round reaches things on the way to one of two things that suit each other and are reached both: along the way to the other one, and from the one back, as far as both ways have nothing in common. Every second thing there is so reached from its mate, for the first time or not; those between them were reached before. One such way for each thing is enough to find all things that can be reached (H. Gabow, An efficient implementation of Edmonds' algorithm for maximum matching on graphs, 1976).
func (p *pairing) round(one, other int) {
	way := p.ways[other]
	for _, thing := range slices.Backward(p.ways[one]) {
		if slices.Contains(way, thing) {
			return
		}
		way = grown(way, thing)
		p.reach(way)
	}
}

// free returns the things that are alone in some best pairing; this one is best.
func (p *pairing) free() set {
	var free set
	for thing := range p.Things {
		if p.mates[thing] != alone {
			continue
		}
		p.search(thing)
		for _, other := range p.reached {
			free[other] = true
		}
	}
	return free
}

// cut returns the things that are not free themselves, but suit one that is. Without them each group of free things is odd, and lacks a mate for just one of its things; all other groups are even, and have mates for all.
func (p *pairing) cut() []int {
	free := p.free()
	var cut []int
	for thing := range p.Things {
		if _, suits := first(p.beside(thing, p.all.has), free.has); suits && !free[thing] {
			cut = grown(cut, thing)
		}
	}
	return taken(cut)
}

// kinds returns the kind of each thing. (If a free thing suits another one, it takes the place of this one's mate in some best pairing.)
func (p *pairing) kinds() []int {
	free := p.free()
	kinds := make([]int, len(p.Things))
	for thing := range kinds {
		switch {
		case p.suits[thing] == set{}:
			kinds[thing] = api.MatchNever
		case free[thing]:
			kinds[thing] = api.MatchMay
		default:
			kinds[thing] = api.MatchAlways
		}
	}
	return kinds
}
