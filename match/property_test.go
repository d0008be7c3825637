package match_test

import (
	"math"
	"math/rand"
	"slices"
	"testing"

	"bolster/api"
	"bolster/match"
)

// many runs a test for so many stocks of all sizes.
func many(t *testing.T, n int, test func(c chance, s api.MatchStock)) {
	t.Helper()
	c := chance{rand.New(rand.NewSource(2))}
	for range n {
		test(c, c.stock(c.from(0, api.MaxMatchThings)))
		if t.Failed() {
			return
		}
	}
}

// pairsBest returns how many pairs Best has.
func pairsBest(t *testing.T, s api.MatchStock) int {
	t.Helper()
	_, n, e := match.Best(s)
	if e != api.OK {
		t.Errorf("%v: Best is %d", s, e)
	}
	return n
}

// countOf returns what Count tells.
func countOf(t *testing.T, s api.MatchStock) int64 {
	t.Helper()
	n, e := match.Count(s)
	if e != api.OK {
		t.Errorf("%v: Count is %d", s, e)
	}
	return n
}

// kindsOf returns what Kinds tells.
func kindsOf(t *testing.T, s api.MatchStock) []int {
	t.Helper()
	kinds, e := match.Kinds(s)
	if len(kinds) != len(s.Things) || e != api.OK {
		t.Errorf("%v: Kinds is %v, %d", s, kinds, e)
	}
	return kinds
}

// pairKind returns what Pair tells.
func pairKind(t *testing.T, s api.MatchStock, one, two int) int {
	t.Helper()
	kind, e := match.Pair(s, one, two)
	if e != api.OK {
		t.Errorf("%v: Pair of %d, %d is %d", s, one, two, e)
	}
	return kind
}

// without returns a stock without some things.
func without(s api.MatchStock, things ...int) api.MatchStock {
	var left []api.MatchThing
	for i, x := range s.Things {
		if !slices.Contains(things, i) {
			left = append(left, x)
		}
	}
	s.Things = left
	return s
}

// isSingle reports whether a thing suits no other one.
func isSingle(s api.MatchStock, one int) bool {
	for two := range s.Things {
		if suit(s, one, two) {
			return false
		}
	}
	return true
}

// P8.8
func TestProved(t *testing.T) {
	less, odd := 0, 0
	many(t, 3000, func(c chance, s api.MatchStock) {
		mates, most, _ := match.Best(s)
		if n, e := match.CheckPairing(s, mates); n != most || pairsOf(mates) != most || e != api.OK {
			t.Errorf("%v: Best is %v, %d, but CheckPairing of it %d, %d", s, mates, most, n, e)
		}
		cut, e := match.Cut(s)
		if bound, f := match.CheckCut(s, cut); bound != most || e != api.OK || f != api.OK {
			t.Errorf("%v: Best has %d pairs, but the bound of Cut %v is %d, %d, %d", s, most, cut, bound, e, f)
		}
		for range 4 {
			some := c.some(s)
			if bound, e := match.CheckCut(s, some); bound < most || e != api.OK {
				t.Errorf("%v: Best has %d pairs, but the bound of %v is %d, %d", s, most, some, bound, e)
			}
		}
		count(&less, len(cut) > 0)
		count(&odd, bound(s, nil) > most && len(groups(s, cut)) > len(cut)+1)
	})
	if less < 500 || odd < 300 {
		t.Errorf("%d cuts have things, %d leave many groups: too few tell something", less, odd)
	}
}

// P8.9: things
func TestThingKinds(t *testing.T) {
	var told [3]int
	many(t, 1000, func(c chance, s api.MatchStock) {
		most := pairsBest(t, s)
		for one, kind := range kindsOf(t, s) {
			told[kind]++
			want := most
			if kind == api.MatchAlways {
				want--
			}
			if n := pairsBest(t, without(s, one)); n != want {
				t.Errorf("%v: %d is of the kind %d; best pairings have %d pairs, and %d without it", s, one, kind, most, n)
			}
			if (kind == api.MatchNever) != isSingle(s, one) {
				t.Errorf("%v: %d is of the kind %d, but it is %t that it suits no other one", s, one, kind, isSingle(s, one))
			}
		}
	})
	if min(told[0], told[1], told[2]) < 1000 {
		t.Errorf("so many things are of each kind: %v: too few tell something", told)
	}
}

// P8.9: pairs
func TestPairKinds(t *testing.T) {
	var told [3]int
	many(t, 250, func(c chance, s api.MatchStock) {
		most, kinds := pairsBest(t, s), kindsOf(t, s)
		for one := range s.Things {
			for two := range one {
				kind := pairKind(t, s, one, two)
				if turned := pairKind(t, s, two, one); turned != kind {
					t.Errorf("%v: Pair of %d, %d is %d, and turned %d", s, one, two, kind, turned)
				}
				if !suit(s, one, two) {
					if kind != api.MatchNever {
						t.Errorf("%v: Pair of %d, %d is %d", s, one, two, kind)
					}
					continue
				}
				told[kind]++
				if kind == api.MatchAlways && (kinds[one] != api.MatchAlways || kinds[two] != api.MatchAlways) {
					t.Errorf("%v: Pair of %d, %d is always, but they are of the kinds %d, %d", s, one, two, kinds[one], kinds[two])
				}
				n := pairsBest(t, without(s, one, two))
				if (kind != api.MatchNever) != (n == most-1) {
					t.Errorf("%v: Pair of %d, %d is %d; best pairings have %d pairs, and %d without them", s, one, two, kind, most, n)
				}
			}
		}
	})
	if min(told[0], told[1], told[2]) < 100 {
		t.Errorf("so many pairs are of each kind: %v: too few tell something", told)
	}
}

// P8.10: just one
func TestJustOne(t *testing.T) {
	one, several := 0, 0
	many(t, 1000, func(c chance, s api.MatchStock) {
		may := false
		for one := range s.Things {
			for two := range one {
				may = may || pairKind(t, s, one, two) == api.MatchMay
			}
		}
		n := countOf(t, s)
		if (n == 1) == may || n < 1 {
			t.Errorf("%v: Count is %d, but it is %t that a pair is of the kind may", s, n, may)
		}
		count(&one, n == 1 && pairsBest(t, s) > 1)
		count(&several, n > 1)
	})
	if one < 30 || several < 100 {
		t.Errorf("%d stocks have one best pairing, %d several: too few tell something", one, several)
	}
}

// P8.10: those in which a thing stays alone, and those in which it has each mate
func TestCountsAddUp(t *testing.T) {
	large := 0
	many(t, 600, func(c chance, s api.MatchStock) {
		if len(s.Things) == 0 {
			return
		}
		most, one := pairsBest(t, s), c.Intn(len(s.Things))
		sum := int64(0)
		if left := without(s, one); pairsBest(t, left) == most {
			sum += countOf(t, left)
		}
		for two := range s.Things {
			if left := without(s, one, two); suit(s, one, two) && pairsBest(t, left) == most-1 {
				sum += countOf(t, left)
			}
		}
		n := countOf(t, s)
		if n != sum {
			t.Errorf("%v: Count is %d, but by the mates of %d it is %d", s, n, one, sum)
		}
		count(&large, n > 100)
	})
	if large < 50 {
		t.Errorf("%d stocks have many best pairings: too few tell something", large)
	}
}

// P8.11
func TestMore(t *testing.T) {
	var more [3]int
	many(t, 3000, func(c chance, s api.MatchStock) {
		most := pairsBest(t, s)
		if len(s.Things) < api.MaxMatchThings {
			wide := s
			wide.Things = slices.Insert(slices.Clone(s.Things), c.from(0, len(s.Things)), c.thing(10, 20, 3))
			n := pairsBest(t, wide)
			if n != most && n != most+1 {
				t.Errorf("%v: Best has %d pairs; with a thing more, %v: %d", s, most, wide, n)
			}
			count(&more[0], n > most)
		}
		wide := s
		wide.Wide += int64(c.from(0, 20))
		n := pairsBest(t, wide)
		if n < most {
			t.Errorf("%v: Best has %d pairs, and if Wide is %d: %d", s, most, wide.Wide, n)
		}
		count(&more[1], n > most)
		if len(s.Mates) < api.MaxMatchMates {
			wide := s
			wide.Mates = slices.Insert(slices.Clone(s.Mates), c.from(0, len(s.Mates)), [2]int{c.Intn(10), c.Intn(10)})
			n := pairsBest(t, wide)
			if n < most {
				t.Errorf("%v: Best has %d pairs, and with the mates %v: %d", s, most, wide.Mates, n)
			}
			count(&more[2], n > most)
		}
	})
	if min(more[0], more[1], more[2]) < 50 {
		t.Errorf("%v stocks have more pairs then: too few tell something", more)
	}
}

// P8.12: other numbers
func TestTurned(t *testing.T) {
	many(t, 1000, func(c chance, s api.MatchStock) {
		order := c.Perm(len(s.Things)) // where the things were before
		other := s
		other.Things = nil
		for _, i := range order {
			other.Things = append(other.Things, s.Things[i])
		}
		if one, two := pairsBest(t, s), pairsBest(t, other); one != two {
			t.Errorf("%v: Best has %d pairs; turned, %v: %d", s, one, other, two)
		}
		if one, two := countOf(t, s), countOf(t, other); one != two {
			t.Errorf("%v: Count is %d; turned, %v: %d", s, one, other, two)
		}
		one, two := kindsOf(t, s), kindsOf(t, other)
		for now, before := range order {
			if two[now] != one[before] {
				t.Errorf("%v: Kinds is %v; turned, %v: %v", s, one, other, two)
			}
		}
		if len(order) > 0 {
			i, j := c.Intn(len(order)), c.Intn(len(order))
			if one, two := pairKind(t, s, order[i], order[j]), pairKind(t, other, i, j); one != two {
				t.Errorf("%v: Pair of %d, %d is %d; turned, %v: %d", s, order[i], order[j], one, other, two)
			}
		}
	})
}

// P8.12: greater weights
func TestHeavier(t *testing.T) {
	many(t, 1000, func(c chance, s api.MatchStock) {
		by := int64(c.from(0, 9000))
		heavy := s
		heavy.Things = slices.Clone(s.Things)
		for i := range heavy.Things {
			heavy.Things[i].Weight += by
		}
		some := c.some(s)
		groups1, _ := match.Groups(s, some)
		groups2, e := match.Groups(heavy, some)
		if !equal(groups1, groups2) || e != api.OK {
			t.Errorf("%v: Groups without %v is %v; heavier by %d: %v, %d", s, some, groups1, by, groups2, e)
		}
		if one, two := pairsBest(t, s), pairsBest(t, heavy); one != two {
			t.Errorf("%v: Best has %d pairs; heavier by %d: %d", s, one, by, two)
		}
		if one, two := kindsOf(t, s), kindsOf(t, heavy); !slices.Equal(one, two) {
			t.Errorf("%v: Kinds is %v; heavier by %d: %v", s, one, by, two)
		}
		if one, two := countOf(t, s), countOf(t, heavy); one != two {
			t.Errorf("%v: Count is %d; heavier by %d: %d", s, one, by, two)
		}
	})
}

// R9
func TestAgain(t *testing.T) {
	many(t, 500, func(c chance, s api.MatchStock) {
		one, _, _ := match.Best(s)
		two, _, _ := match.Best(s)
		cut1, _ := match.Cut(s)
		cut2, _ := match.Cut(s)
		if !slices.Equal(one, two) || !slices.Equal(cut1, cut2) {
			t.Errorf("%v: Best and Cut are %v, %v, and again %v, %v", s, one, cut1, two, cut2)
		}
	})
}

// odd returns a number of any size.
func (c chance) odd() int {
	switch c.Intn(4) {
	case 0:
		return []int{math.MinInt, math.MinInt + 1, math.MaxInt - 1, math.MaxInt}[c.Intn(4)]
	case 1:
		return c.from(-1, 1)
	case 2:
		return c.from(-20, 20)
	}
	return int(c.Uint64())
}

// P1, R2: any arguments
func TestAnyArguments(t *testing.T) {
	c := chance{rand.New(rand.NewSource(3))}
	for range 3000 {
		s := c.stock(c.from(1, 8))
		list := c.some(s)
		switch c.Intn(6) {
		case 0:
			s.Things[0] = api.MatchThing{Kind: c.odd(), Weight: int64(c.odd()), Grain: c.odd()}
		case 1:
			s.Mates = append(s.Mates, [2]int{c.odd(), c.odd()})
		case 2:
			s.Wide = int64(c.odd())
		case 3:
			list = append(list, c.odd())
		case 4:
			list = slices.Repeat(of(-1), len(s.Things))
			list[0] = c.odd()
		}
		one, two := c.odd(), c.odd()
		for function, e := range errorsOf(s, list, one, two) {
			if e < 0 {
				t.Errorf("%s of %v, %v, %d, %d returns something with an error", function, s, list, one, two)
			}
		}
	}
}
