package match_test

import (
	"math/rand"
	"slices"
	"testing"

	"bolster/api"
	"bolster/match"
)

// The model lists all right pairings of a stock, as the chapter defines them.

// within reports whether a kind, a weight or a grain differs from another one by at most so much.
func within(a, b, wide int64) bool { return a-b <= wide && b-a <= wide }

// suit reports whether two things suit each other.
func suit(s api.MatchStock, one, two int) bool {
	a, b := s.Things[one], s.Things[two]
	mates := slices.Contains(s.Mates, [2]int{a.Kind, b.Kind}) || slices.Contains(s.Mates, [2]int{b.Kind, a.Kind})
	return one != two && mates && within(a.Weight, b.Weight, s.Wide) && (a.Grain*b.Grain == 0 || a.Grain == b.Grain)
}

// pairings returns all right pairings.
func pairings(s api.MatchStock) [][]int {
	var all [][]int
	mates := slices.Repeat(of(-1), len(s.Things))
	var choose func(thing int)
	choose = func(thing int) {
		if thing == len(mates) {
			all = append(all, slices.Clone(mates))
			return
		}
		choose(thing + 1)
		if mates[thing] >= 0 {
			return
		}
		for mate := thing + 1; mate < len(mates); mate++ {
			if mates[mate] < 0 && suit(s, thing, mate) {
				mates[thing], mates[mate] = mate, thing
				choose(thing + 1)
				mates[thing], mates[mate] = -1, -1
			}
		}
	}
	choose(0)
	return all
}

// pairsOf returns how many pairs a pairing has.
func pairsOf(mates []int) int {
	n := 0
	for thing, mate := range mates {
		if mate > thing {
			n++
		}
	}
	return n
}

// best returns the best pairings of all, and how many pairs they have.
func best(all [][]int) ([][]int, int) {
	most := 0
	for _, mates := range all {
		most = max(most, pairsOf(mates))
	}
	return slices.DeleteFunc(slices.Clone(all), func(mates []int) bool { return pairsOf(mates) < most }), most
}

// kindOf returns the kind of what so many of some pairings have.
func kindOf(n, some int) int {
	switch n {
	case 0:
		return api.MatchNever
	case some:
		return api.MatchAlways
	}
	return api.MatchMay
}

// number returns how many of some pairings are so.
func number(some [][]int, isSo func(mates []int) bool) int {
	n := 0
	for _, mates := range some {
		count(&n, isSo(mates))
	}
	return n
}

// count counts what is so.
func count(n *int, so bool) {
	if so {
		*n++
	}
}

// groups returns the groups without some things: each thing takes over the least name of those that it suits, until nothing changes.
func groups(s api.MatchStock, without []int) [][]int {
	name := map[int]int{}
	for thing := range s.Things {
		if !slices.Contains(without, thing) {
			name[thing] = thing
		}
	}
	for changed := true; changed; {
		changed = false
		for one := range name {
			for two := range name {
				if suit(s, one, two) && name[one] < name[two] {
					name[two], changed = name[one], true
				}
			}
		}
	}
	var all [][]int
	for first := range s.Things {
		var group []int
		for thing := range s.Things {
			if n, left := name[thing]; left && n == first {
				group = append(group, thing)
			}
		}
		if len(group) > 0 {
			all = append(all, group)
		}
	}
	return all
}

// bound returns the bound of a cut.
func bound(s api.MatchStock, cut []int) int {
	twice := len(s.Things) + len(cut)
	for _, group := range groups(s, cut) {
		if len(group)%2 == 1 {
			twice--
		}
	}
	return twice / 2
}

// chance makes stocks.
type chance struct{ *rand.Rand }

func (c chance) from(lo, hi int) int { return lo + c.Intn(hi-lo+1) }

// thing returns a thing of one of the first kinds, that weighs at most so much, with one of the first grains, or none.
func (c chance) thing(kinds, weight, grains int) api.MatchThing {
	return thing(c.Intn(kinds), int64(c.from(0, weight)), c.from(0, grains))
}

// web returns a stock whose things are mostly of a kind each, so that those that suit each other are any ones.
func (c chance) web(things int) api.MatchStock {
	s := web(min(things, 10))
	for len(s.Things) < things {
		s.Things = append(s.Things, thing(c.Intn(10), 0, 0))
	}
	c.Shuffle(things, func(i, j int) { s.Things[i], s.Things[j] = s.Things[j], s.Things[i] })
	kinds := max(1, min(things, 10))
	for range c.from(0, min(20, 2*things)) {
		s.Mates = append(s.Mates, [2]int{c.Intn(kinds), c.Intn(kinds)})
	}
	return s
}

// mixed returns a stock of a few kinds, weights and grains.
func (c chance) mixed(things int) api.MatchStock {
	kinds, weight, grains := c.from(1, 5), c.from(0, 20), c.Intn(4)
	var s api.MatchStock
	for range things {
		s.Things = append(s.Things, c.thing(kinds, weight, grains))
	}
	for range c.from(1, 2*kinds) {
		s.Mates = append(s.Mates, [2]int{c.Intn(kinds), c.Intn(kinds)})
	}
	s.Wide = int64(c.from(0, weight+1))
	return s
}

// stock returns a stock of so many things.
func (c chance) stock(things int) api.MatchStock {
	if c.Intn(2) == 0 {
		return c.web(things)
	}
	return c.mixed(things)
}

// some returns a strictly increasing list of things.
func (c chance) some(s api.MatchStock) []int {
	var list []int
	share := c.Intn(10)
	for thing := range s.Things {
		if c.Intn(10) < share {
			list = append(list, thing)
		}
	}
	return list
}

// smallStocks runs a test for many stocks whose right pairings the model lists.
func smallStocks(t *testing.T, test func(c chance, s api.MatchStock, all [][]int)) {
	t.Helper()
	c := chance{rand.New(rand.NewSource(1))}
	for range 4000 {
		s := c.stock(c.from(0, 9))
		test(c, s, pairings(s))
		if t.Failed() {
			return
		}
	}
}

// P8.2 (Suit)
func TestSuitAsModel(t *testing.T) {
	yes, no := 0, 0
	smallStocks(t, func(c chance, s api.MatchStock, all [][]int) {
		for one := range s.Things {
			for two := range s.Things {
				got, e := match.Suit(s, one, two)
				if got != suit(s, one, two) || e != api.OK {
					t.Errorf("%v: Suit of %d, %d is %t, %d", s, one, two, got, e)
				}
				count(&yes, got)
				count(&no, !got && one != two)
			}
		}
	})
	if yes < 1000 || no < 1000 {
		t.Errorf("%d things suit each other, %d do not: too few tell something", yes, no)
	}
}

// P8.2 (Groups), P8.5 (CheckCut)
func TestGroupsAsModel(t *testing.T) {
	several := 0
	smallStocks(t, func(c chance, s api.MatchStock, all [][]int) {
		for range 4 {
			list := c.some(s)
			want := groups(s, list)
			if got, e := match.Groups(s, list); !equal(got, want) || e != api.OK {
				t.Errorf("%v: Groups without %v is %v, %d, not %v", s, list, got, e, want)
			}
			if got, e := match.CheckCut(s, list); got != bound(s, list) || e != api.OK {
				t.Errorf("%v: CheckCut of %v is %d, %d, not %d", s, list, got, e, bound(s, list))
			}
			count(&several, len(want) > 1 && len(want[0]) > 2)
		}
	})
	if several < 500 {
		t.Errorf("%d times there are several groups: too few tell something", several)
	}
}

// bent returns a pairing that is changed a little.
func (c chance) bent(mates []int) []int {
	mates = slices.Clone(mates)
	for range c.Intn(3) {
		one, two := c.Intn(len(mates)), c.Intn(len(mates))
		switch c.Intn(4) {
		case 0:
			mates[one], mates[two] = two, one
		case 1:
			mates[one] = two
		case 2:
			mates[one], mates[two] = mates[two], mates[one]
		case 3:
			mates[one] = -1
		}
	}
	return mates
}

// P8.3
func TestCheckPairingAsModel(t *testing.T) {
	right, wrong := 0, 0
	smallStocks(t, func(c chance, s api.MatchStock, all [][]int) {
		if len(s.Things) == 0 {
			return
		}
		for range 10 {
			mates := c.bent(all[c.Intn(len(all))])
			n, want := 0, api.ErrRule
			if slices.ContainsFunc(all, func(other []int) bool { return slices.Equal(mates, other) }) {
				n, want = pairsOf(mates), api.OK
			}
			if got, e := match.CheckPairing(s, mates); got != n || e != want {
				t.Errorf("%v: CheckPairing of %v is %d, %d, not %d, %d", s, mates, got, e, n, want)
			}
			count(&right, n > 1)
			count(&wrong, want != api.OK)
		}
	})
	if right < 1000 || wrong < 1000 {
		t.Errorf("%d pairings are right, %d wrong: too few tell something", right, wrong)
	}
}

// P8.4, P8.5 (Cut), P8.7
func TestBestAsModel(t *testing.T) {
	less := 0
	smallStocks(t, func(c chance, s api.MatchStock, all [][]int) {
		some, most := best(all)
		mates, n, e := match.Best(s)
		isOne := slices.ContainsFunc(some, func(other []int) bool { return slices.Equal(mates, other) })
		if !isOne || n != most || e != api.OK {
			t.Errorf("%v: Best is %v, %d, %d, not one of %v", s, mates, n, e, some)
		}
		cut, e := match.Cut(s)
		if !slices.IsSorted(cut) || len(slices.Compact(slices.Clone(cut))) != len(cut) || bound(s, cut) != most || e != api.OK {
			t.Errorf("%v: Cut is %v, %d; its bound is %d, not %d", s, cut, e, bound(s, cut), most)
		}
		if n, e := match.Count(s); n != int64(len(some)) || e != api.OK {
			t.Errorf("%v: Count is %d, %d, not %d", s, n, e, len(some))
		}
		count(&less, bound(s, nil) > most)
	})
	if less < 200 {
		t.Errorf("%d times no things are no cut that proves: too few tell something", less)
	}
}

// P8.6
func TestKindsAsModel(t *testing.T) {
	var things, pairs [3]int
	smallStocks(t, func(c chance, s api.MatchStock, all [][]int) {
		some, _ := best(all)
		want := make([]int, len(s.Things))
		for one := range s.Things {
			want[one] = kindOf(number(some, func(mates []int) bool { return mates[one] >= 0 }), len(some))
			things[want[one]]++
			for two := range s.Things {
				kind := kindOf(number(some, func(mates []int) bool { return mates[one] == two }), len(some))
				if got, e := match.Pair(s, one, two); got != kind || e != api.OK {
					t.Errorf("%v: Pair of %d, %d is %d, %d, not %d", s, one, two, got, e, kind)
				}
				if suit(s, one, two) {
					pairs[kind]++
				}
			}
		}
		if got, e := match.Kinds(s); !slices.Equal(got, want) || e != api.OK {
			t.Errorf("%v: Kinds is %v, %d, not %v", s, got, e, want)
		}
	})
	for _, n := range append(things[:], pairs[:]...) {
		if n < 500 {
			t.Errorf("so many things and pairs are of each kind: %v, %v: too few tell something", things, pairs)
		}
	}
}
