package warp

import "bolster/api"

// strain is how great the strain at a station is; behind the last station it is 0.
type strain struct {
	station int
	amount  int64
}

// chain is pulls at the first stations, and what they add to the bound.
type chain struct {
	bound int64
	pulls []int64
}

// holds returns what a station adds to the bound by its pull, and by the strain there.
func (w *bench) holds(station int, pull, amount int64) int64 {
	bound := int64(0)
	switch tube := w.tube(station); {
	case pull > 0:
		bound = pull * tube.Lo
	case pull < 0:
		bound = pull * tube.Hi
	}
	above := max(amount, -amount) - w.Stations[station].Hard
	return bound - w.Most*max(above, 0)
}

// strains returns the strains that pulls with the greatest bound need. As a function of the strains, the bound is made of straight pieces, which meet where a strain is the Hard of its station, to either side, or is the strain behind it, which is 0 at last. A blade that can be straight has a greatest bound, and so a corner with it, at which no strain is above all Hard. (If Most is 0, a strain has no such places; but then it needs no pulls.)
func strains() api.Range {
	return api.Range{Lo: -api.MaxWarpHard, Hi: api.MaxWarpHard}
}

// pulls returns pulls with the greatest bound that a blade has which can be made straight.
func (w *bench) pulls() []int64 {
	chains := map[strain]chain{}
	for amount := range each(strains()) {
		chains[strain{0, amount}] = chain{}
	}
	for station := range w.Stations {
		for behind := range each(strains()) {
			chains[strain{station + 1, behind}] = w.longer(chains, station, behind)
		}
		for amount := range each(strains()) {
			delete(chains, strain{station, amount})
		}
	}
	return taken(chains[strain{len(w.Stations), 0}].pulls)
}

// longer returns the chain with the greatest bound that goes on over a station and leaves a strain behind it.
func (w *bench) longer(chains map[strain]chain, station int, behind int64) chain {
	bound := func(amount int64) int64 {
		return chains[strain{station, amount}].bound + w.holds(station, amount-behind, amount)
	}
	best, _ := leastBy(each(strains()), func(amount int64) int64 { return -bound(amount) })
	return chain{bound(best), grown(chains[strain{station, best}].pulls, best-behind)}
}
