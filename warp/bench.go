package warp

import (
	"iter"

	"bolster/api"
)

// beginning stands in place of a station for the blade before its first one: the bend up to it is 0.
const beginning = -1

// bench holds a valid blade with its tubes, which blows are allowed, and what they cost.
type bench struct {
	api.WarpBlade
	tubes   []api.Range
	allowed func(station int, blow int64) bool
	// rests tells for each station, by the bend before it, what the blows at it and behind it cost at least that make all of these stations straight; its last row is behind the last station.
	rests []row
}

// newBench returns a bench on which each blow is allowed that the stations bear.
func newBench(b api.WarpBlade) *bench {
	w := &bench{WarpBlade: b}
	for _, s := range w.Stations {
		w.tubes = grown(w.tubes, api.Range{Lo: s.Tol.Lo - s.Angle, Hi: s.Tol.Hi - s.Angle})
	}
	w.allowed = w.bears
	return w
}

// bears reports whether a station bears a blow: all of them bear the same.
func (w *bench) bears(station int, blow int64) bool { return amountsWithin(w.Most, blow) }

// tube returns the tube of a station, or of the beginning.
func (w *bench) tube(station int) api.Range {
	if station == beginning {
		return api.Range{}
	}
	return w.tubes[station]
}

// price returns what a blow costs at a station.
func (w *bench) price(station int, blow int64) int64 {
	return w.Stations[station].Hard * max(blow, -blow)
}

// solve computes what is cheapest from the last station back to the beginning, and returns ErrWarp if no allowed blows make the blade straight.
func (w *bench) solve() api.Errno {
	last := len(w.Stations) - 1
	w.rests = make([]row, last+2)
	for bend := range each(w.tube(last)) {
		w.rests[last+1].offer(bend, 0)
	}
	for station := last; station >= 0; station-- {
		for from := range each(w.tube(station - 1)) {
			if to, ok := w.cheapest(station, from); ok {
				w.rests[station].offer(from, w.cost(station, from, to))
			}
		}
	}
	if w.rests[0] == (row{}) {
		return api.ErrWarp
	}
	return api.OK
}

// onward yields the bends up to a station to which an allowed blow leads from the bend before it, and from which the stations behind can be made straight.
func (w *bench) onward(station int, from int64) iter.Seq[int64] {
	return func(yield func(bend int64) bool) {
		for to := range w.rests[station+1].bends(w.tube(station)) {
			if w.allowed(station, to-from) && !yield(to) {
				return
			}
		}
	}
}

// cost returns what it costs at least to go on from the bend before a station over the one up to it.
func (w *bench) cost(station int, from, to int64) int64 {
	return w.price(station, to-from) + w.rests[station+1].cost(to)
}

// cheapest returns the bend up to a station over which it costs least to go on, and whether there is one.
func (w *bench) cheapest(station int, from int64) (int64, bool) {
	return leastBy(w.onward(station, from), func(to int64) int64 { return w.cost(station, from, to) })
}

// least returns what the cheapest allowed blows cost, once they are solved.
func (w *bench) least() int64 { return w.rests[0].cost(0) }

// blows returns the cheapest allowed blows, once they are solved.
func (w *bench) blows() []int64 {
	var list []int64
	bend := int64(0)
	for station := range w.Stations {
		to, _ := w.cheapest(station, bend)
		list = grown(list, to-bend)
		bend = to
	}
	return taken(list)
}

// upTo returns, by the bend up to a station, what blows up to it cost at least that make all of these stations straight.
func (w *bench) upTo(station int) *row {
	here, before := &row{}, &row{}
	here.offer(0, 0)
	for at := range station + 1 {
		here, before = before, here
		clear(here[:])
		for from := range before.bends(w.tube(at - 1)) {
			for to := range each(w.tube(at)) {
				if w.allowed(at, to-from) {
					here.offer(to, before.cost(from)+w.price(at, to-from))
				}
			}
		}
	}
	return here
}

// bends returns the ends of the bends up to a station, once a bench is solved.
func (w *bench) bends(station int) api.Range {
	ends := api.Range{Lo: maxBend, Hi: -maxBend}
	rest := &w.rests[station+1]
	for bend := range w.upTo(station).bends(w.tube(station)) {
		if rest.can(bend) {
			ends = widened(ends, bend)
		}
	}
	return ends
}

// span returns the ends of the blows at a station by which as little is paid as can be, once a bench is solved.
func (w *bench) span(station int) api.Range {
	ends := api.Range{Lo: w.Most, Hi: -w.Most}
	before := w.upTo(station - 1)
	for from := range before.bends(w.tube(station - 1)) {
		for to := range w.onward(station, from) {
			if before.cost(from)+w.cost(station, from, to) == w.least() {
				ends = widened(ends, to-from)
			}
		}
	}
	return ends
}

// widened returns a range that contains a number too.
func widened(r api.Range, number int64) api.Range {
	return api.Range{Lo: min(r.Lo, number), Hi: max(r.Hi, number)}
}

// clash returns the first two stations that contradict each other, and whether there are some.
func (w *bench) clash() (int, int, bool) {
	one, two, found := 0, 0, false
search:
	for earlier := beginning; earlier < len(w.Stations); earlier++ {
		for later := earlier + 1; later < len(w.Stations); later++ {
			if w.contradict(earlier, later) {
				one, two, found = earlier, later, true
				break search
			}
		}
	}
	return one, two, found
}

// contradict reports whether two tubes are farther apart than all blows between them reach.
func (w *bench) contradict(earlier, later int) bool {
	a, b := w.tube(earlier), w.tube(later)
	reach := w.Most * int64(later-earlier)
	return a.Lo-b.Hi > reach || b.Lo-a.Hi > reach
}
