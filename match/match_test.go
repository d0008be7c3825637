package match_test

import (
	"math"
	"reflect"
	"slices"
	"testing"

	"bolster/api"
	"bolster/match"
)

func of(x ...int) []int { return x }

// thing returns a thing.
func thing(kind int, weight int64, grain int) api.MatchThing {
	return api.MatchThing{Kind: kind, Weight: weight, Grain: grain}
}

// chapter returns the stock of the chapter's examples, in new memory.
func chapter() api.MatchStock {
	return api.MatchStock{
		Things: []api.MatchThing{
			thing(1, 50, 0), thing(2, 52, 0), thing(2, 55, 0),
			thing(3, 20, 1), thing(3, 21, 1), thing(3, 22, 0), thing(3, 24, 2),
		},
		Mates: [][2]int{{1, 2}, {3, 3}},
		Wide:  5,
	}
}

// web returns a stock whose things are of a kind each, with the kinds that go together: two numbers for each two of them.
func web(things int, mates ...int) api.MatchStock {
	var s api.MatchStock
	for kind := range things {
		s.Things = append(s.Things, thing(kind, 0, 0))
	}
	for i := 0; i < len(mates); i += 2 {
		s.Mates = append(s.Mates, [2]int{mates[i], mates[i+1]})
	}
	return s
}

// alike returns a stock of so many things, of which each suits each other one.
func alike(things int) api.MatchStock {
	return api.MatchStock{Things: make([]api.MatchThing, things), Mates: [][2]int{{0, 0}}}
}

// halves returns a stock of things of two kinds, of which each one suits each of the other kind.
func halves(one, two int) api.MatchStock {
	things := append(slices.Repeat([]api.MatchThing{thing(0, 0, 0)}, one), slices.Repeat([]api.MatchThing{thing(1, 0, 0)}, two)...)
	return api.MatchStock{Things: things, Mates: [][2]int{{1, 0}}}
}

// ring returns a stock of so many things, up to ten, of which each one suits the next one, and the last one the first one.
func ring(things int) api.MatchStock {
	var mates []int
	for kind := range things {
		mates = append(mates, kind, (kind+1)%things)
	}
	return web(things, mates...)
}

// flowers returns a stock of three groups of five things that all suit each other, and a last thing that suits one of each group.
func flowers() api.MatchStock {
	s := api.MatchStock{Mates: [][2]int{{0, 1}, {1, 1}, {0, 9}}}
	for grain := 1; grain <= 3; grain++ {
		for _, kind := range of(0, 1, 1, 1, 1) {
			s.Things = append(s.Things, thing(kind, 0, grain))
		}
	}
	s.Things = append(s.Things, thing(9, 0, 0))
	return s
}

// stockCases change the stock of the chapter, and tell what CheckStock says of it then.
var stockCases = []struct {
	name   string
	change func(s *api.MatchStock)
	want   api.Errno
}{
	{"as it is", func(s *api.MatchStock) {}, api.OK},
	{"no things", func(s *api.MatchStock) { s.Things = nil }, api.OK},
	{"an empty list of things", func(s *api.MatchStock) { s.Things = s.Things[:0] }, api.OK},
	{"no mates", func(s *api.MatchStock) { s.Mates = nil }, api.OK},
	{"nothing", func(s *api.MatchStock) { *s = api.MatchStock{} }, api.OK},
	{"most things", func(s *api.MatchStock) { s.Things = make([]api.MatchThing, 16) }, api.OK},
	{"most mates", func(s *api.MatchStock) { s.Mates = make([][2]int, 20) }, api.OK},
	{"a thing with all 0", func(s *api.MatchStock) { s.Things[6] = thing(0, 0, 0) }, api.OK},
	{"a thing with all greatest", func(s *api.MatchStock) { s.Things[6] = thing(9, 10000, 9) }, api.OK},
	{"mates of the same kind", func(s *api.MatchStock) { s.Mates[1] = [2]int{9, 9} }, api.OK},
	{"mates of the least and the greatest kind", func(s *api.MatchStock) { s.Mates[1] = [2]int{9, 0} }, api.OK},
	{"Wide is 0", func(s *api.MatchStock) { s.Wide = 0 }, api.OK},
	{"the greatest Wide", func(s *api.MatchStock) { s.Wide = 10000 }, api.OK},
	{"too many things", func(s *api.MatchStock) { s.Things = make([]api.MatchThing, 17) }, api.ErrMany},
	{"far too many things", func(s *api.MatchStock) { s.Things = make([]api.MatchThing, 70000) }, api.ErrMany},
	{"too many mates", func(s *api.MatchStock) { s.Mates = make([][2]int, 21) }, api.ErrMany},
	{"far too many mates", func(s *api.MatchStock) { s.Mates = make([][2]int, 70000) }, api.ErrMany},
	{"too many things come before all else", func(s *api.MatchStock) {
		s.Things, s.Mates[0][0], s.Wide = slices.Repeat([]api.MatchThing{thing(-1, 0, 0)}, 17), -1, -1
	}, api.ErrMany},
	{"too many mates come before all else", func(s *api.MatchStock) {
		s.Things[0].Kind, s.Mates, s.Wide = -1, slices.Repeat([][2]int{{-1, 10}}, 21), -1
	}, api.ErrMany},
	{"Kind below 0", func(s *api.MatchStock) { s.Things[0].Kind = -1 }, api.ErrRange},
	{"Kind too great", func(s *api.MatchStock) { s.Things[6].Kind = 10 }, api.ErrRange},
	{"Kind far off", func(s *api.MatchStock) { s.Things[1].Kind = math.MaxInt }, api.ErrRange},
	{"Kind far below 0", func(s *api.MatchStock) { s.Things[1].Kind = math.MinInt }, api.ErrRange},
	{"Grain below 0", func(s *api.MatchStock) { s.Things[0].Grain = -1 }, api.ErrRange},
	{"Grain too great", func(s *api.MatchStock) { s.Things[6].Grain = 10 }, api.ErrRange},
	{"Grain far off", func(s *api.MatchStock) { s.Things[1].Grain = math.MaxInt }, api.ErrRange},
	{"Grain far below 0", func(s *api.MatchStock) { s.Things[1].Grain = math.MinInt }, api.ErrRange},
	{"Weight below 0", func(s *api.MatchStock) { s.Things[0].Weight = -1 }, api.ErrRange},
	{"Weight too great", func(s *api.MatchStock) { s.Things[6].Weight = 10001 }, api.ErrRange},
	{"Weight far off", func(s *api.MatchStock) { s.Things[1].Weight = math.MaxInt64 }, api.ErrRange},
	{"Weight far below 0", func(s *api.MatchStock) { s.Things[1].Weight = math.MinInt64 }, api.ErrRange},
	{"a thing comes before mates and Wide", func(s *api.MatchStock) { s.Things[6].Kind, s.Mates[0][0], s.Wide = 10, -1, -1 }, api.ErrRange},
	{"mates below 0", func(s *api.MatchStock) { s.Mates[0][0] = -1 }, api.ErrArg},
	{"the second one of mates below 0", func(s *api.MatchStock) { s.Mates[0][1] = -1 }, api.ErrArg},
	{"mates too great", func(s *api.MatchStock) { s.Mates[1][0] = 10 }, api.ErrArg},
	{"the second one of mates too great", func(s *api.MatchStock) { s.Mates[1][1] = 10 }, api.ErrArg},
	{"mates far off", func(s *api.MatchStock) { s.Mates[1] = [2]int{math.MaxInt, math.MinInt} }, api.ErrArg},
	{"Wide below 0", func(s *api.MatchStock) { s.Wide = -1 }, api.ErrArg},
	{"Wide too great", func(s *api.MatchStock) { s.Wide = 10001 }, api.ErrArg},
	{"Wide far off", func(s *api.MatchStock) { s.Wide = math.MaxInt64 }, api.ErrArg},
	{"Wide far below 0", func(s *api.MatchStock) { s.Wide = math.MinInt64 }, api.ErrArg},
}

// P8.1, and that all functions return the error of CheckStock before all others
func TestCheckStock(t *testing.T) {
	for _, x := range stockCases {
		s := chapter()
		x.change(&s)
		if e := match.CheckStock(s); e != x.want {
			t.Errorf("%s: CheckStock is %d, not %d", x.name, e, x.want)
		}
		for function, got := range errorsOf(s, of(99, -5), 99, -5) {
			want := x.want
			if want == api.OK {
				want = ownErrors[function]
			}
			if got != want {
				t.Errorf("%s: %s is %d, not %d", x.name, function, got, want)
			}
		}
	}
}

// ownErrors tells what each function returns, of any valid stock, for what is not a thing, and not a list of things.
var ownErrors = map[string]api.Errno{
	"Suit": api.ErrRange, "Groups": api.ErrRange, "CheckPairing": api.ErrEqual, "CheckCut": api.ErrRange, "Pair": api.ErrRange,
}

// errorsOf returns the error of each function but CheckStock, or -1 if another result is not zero with an error.
func errorsOf(s api.MatchStock, list []int, one, two int) map[string]api.Errno {
	all := map[string]api.Errno{}
	add := func(function string, e api.Errno, zero bool) {
		if e != api.OK && !zero {
			e = -1
		}
		all[function] = e
	}
	suit, e := match.Suit(s, one, two)
	add("Suit", e, !suit)
	groups, e := match.Groups(s, list)
	add("Groups", e, len(groups) == 0)
	n, e := match.CheckPairing(s, list)
	add("CheckPairing", e, n == 0)
	mates, n, e := match.Best(s)
	add("Best", e, len(mates) == 0 && n == 0)
	n, e = match.CheckCut(s, list)
	add("CheckCut", e, n == 0)
	cut, e := match.Cut(s)
	add("Cut", e, len(cut) == 0)
	kinds, e := match.Kinds(s)
	add("Kinds", e, len(kinds) == 0)
	kind, e := match.Pair(s, one, two)
	add("Pair", e, kind == 0)
	count, e := match.Count(s)
	add("Count", e, count == 0)
	return all
}

// P8.2 (Suit), P8.6 (Pair): what is no thing
func TestNoThings(t *testing.T) {
	for _, wrong := range of(-1, 7, 16, math.MinInt, math.MaxInt) {
		for _, two := range [][2]int{{0, wrong}, {wrong, 0}, {wrong, wrong}} {
			if suit, e := match.Suit(chapter(), two[0], two[1]); suit || e != api.ErrRange {
				t.Errorf("Suit of %v is %t, %d", two, suit, e)
			}
			if kind, e := match.Pair(chapter(), two[0], two[1]); kind != 0 || e != api.ErrRange {
				t.Errorf("Pair of %v is %d, %d", two, kind, e)
			}
		}
	}
	if _, e := match.Suit(api.MatchStock{}, 0, 0); e != api.ErrRange {
		t.Errorf("Suit of no things is %d", e)
	}
	if _, e := match.Pair(api.MatchStock{}, 0, 0); e != api.ErrRange {
		t.Errorf("Pair of no things is %d", e)
	}
}

// P8.2 (Suit)
func TestSuit(t *testing.T) {
	for _, x := range []struct {
		one, two int
		want     bool
	}{
		{0, 1, true}, {1, 0, true}, {1, 2, false}, {3, 6, false}, {5, 6, true}, {3, 3, false},
		{0, 2, true}, {2, 0, true}, {0, 0, false}, {0, 3, false}, {3, 4, true}, {3, 5, true}, {4, 5, true}, {4, 6, false},
	} {
		if suit, e := match.Suit(chapter(), x.one, x.two); suit != x.want || e != api.OK {
			t.Errorf("Suit of %d, %d is %t, %d, not %t", x.one, x.two, suit, e, x.want)
		}
	}
	for _, x := range []struct {
		name     string
		one, two api.MatchThing
		mates    [2]int
		wide     int64
		want     bool
	}{
		{"all 0", thing(0, 0, 0), thing(0, 0, 0), [2]int{0, 0}, 0, true},
		{"the kinds", thing(4, 7, 0), thing(8, 7, 0), [2]int{4, 8}, 0, true},
		{"the kinds, turned", thing(4, 7, 0), thing(8, 7, 0), [2]int{8, 4}, 0, true},
		{"twice the first kind", thing(4, 7, 0), thing(4, 7, 0), [2]int{4, 8}, 0, false},
		{"twice the second kind", thing(8, 7, 0), thing(8, 7, 0), [2]int{4, 8}, 0, false},
		{"the first kind alone", thing(4, 7, 0), thing(9, 7, 0), [2]int{4, 8}, 0, false},
		{"the second kind alone", thing(9, 7, 0), thing(8, 7, 0), [2]int{4, 8}, 0, false},
		{"mates of the same kind, but another one", thing(4, 7, 0), thing(8, 7, 0), [2]int{4, 4}, 0, false},
		{"as wide as may be", thing(4, 7, 0), thing(4, 12, 0), [2]int{4, 4}, 5, true},
		{"one wider", thing(4, 7, 0), thing(4, 13, 0), [2]int{4, 4}, 5, false},
		{"not wide, but wider than 0", thing(4, 7, 0), thing(4, 8, 0), [2]int{4, 4}, 0, false},
		{"the widest", thing(4, 0, 0), thing(4, 10000, 0), [2]int{4, 4}, 10000, true},
		{"wider than the widest but one", thing(4, 0, 0), thing(4, 10000, 0), [2]int{4, 4}, 9999, false},
		{"the same grain", thing(4, 7, 9), thing(4, 7, 9), [2]int{4, 4}, 0, true},
		{"another grain", thing(4, 7, 9), thing(4, 7, 8), [2]int{4, 4}, 0, false},
		{"one without a grain", thing(4, 7, 9), thing(4, 7, 0), [2]int{4, 4}, 0, true},
		{"no mates of them", thing(4, 7, 9), thing(4, 7, 9), [2]int{5, 5}, 10000, false},
	} {
		s := api.MatchStock{Things: []api.MatchThing{x.one, x.two}, Mates: [][2]int{{1, 2}, x.mates, {3, 7}}, Wide: x.wide}
		for _, two := range [][2]int{{0, 1}, {1, 0}} {
			if suit, e := match.Suit(s, two[0], two[1]); suit != x.want || e != api.OK {
				t.Errorf("%s: Suit of %v is %t, %d, not %t", x.name, two, suit, e, x.want)
			}
		}
		for self := range 2 {
			if suit, e := match.Suit(s, self, self); suit || e != api.OK {
				t.Errorf("%s: Suit of a thing with itself is %t, %d", x.name, suit, e)
			}
		}
	}
}

// equal reports whether groups are the same.
func equal(a, b [][]int) bool { return slices.EqualFunc(a, b, slices.Equal) }

// listCases are lists, of things of the stock of the chapter, that are not strictly increasing lists of things.
var listCases = [][]int{
	{-1}, {7}, {0, 7}, {-1, 0}, {0, 0}, {1, 0}, {0, 2, 2}, {0, 1, 2, 3, 4, 5, 6, 6}, {3, 2, 7}, {0, math.MaxInt}, {math.MinInt, 0},
	make([]int, 70000),
}

// P8.2 (Groups)
func TestGroups(t *testing.T) {
	for _, x := range []struct {
		name    string
		s       api.MatchStock
		without []int
		want    [][]int
	}{
		{"of the chapter: none", chapter(), nil, [][]int{{0, 1, 2}, {3, 4, 5, 6}}},
		{"of the chapter: 0 and 5", chapter(), of(0, 5), [][]int{{1}, {2}, {3, 4}, {6}}},
		{"an empty list", chapter(), of(), [][]int{{0, 1, 2}, {3, 4, 5, 6}}},
		{"without 3", chapter(), of(3), [][]int{{0, 1, 2}, {4, 5, 6}}},
		{"without the last one", chapter(), of(6), [][]int{{0, 1, 2}, {3, 4, 5}}},
		{"without the first group", chapter(), of(0, 1, 2), [][]int{{3, 4, 5, 6}}},
		{"without all", chapter(), of(0, 1, 2, 3, 4, 5, 6), nil},
		{"no things", api.MatchStock{}, nil, nil},
		{"all alone", web(4), nil, [][]int{{0}, {1}, {2}, {3}}},
		{"a long way", web(6, 0, 5, 5, 1, 1, 4, 4, 2, 2, 3), nil, [][]int{{0, 1, 2, 3, 4, 5}}},
		{"a long way that is cut", web(6, 0, 5, 5, 1, 1, 4, 4, 2, 2, 3), of(4), [][]int{{0, 1, 5}, {2, 3}}},
		{"groups that lie within each other", web(6, 0, 5, 1, 4, 2, 3), nil, [][]int{{0, 5}, {1, 4}, {2, 3}}},
		{"a ring without two", ring(9), of(0, 4), [][]int{{1, 2, 3}, {5, 6, 7, 8}}},
		{"most things", alike(16), of(15), [][]int{{0, 1, 2, 3, 4, 5, 6, 7, 8, 9, 10, 11, 12, 13, 14}}},
	} {
		if groups, e := match.Groups(x.s, x.without); !equal(groups, x.want) || e != api.OK {
			t.Errorf("%s: Groups is %v, %d, not %v", x.name, groups, e, x.want)
		}
	}
	for _, list := range listCases {
		if groups, e := match.Groups(chapter(), list); len(groups) > 0 || e != api.ErrRange {
			t.Errorf("Groups without %v is %v, %d", list, groups, e)
		}
	}
	if groups, e := match.Groups(api.MatchStock{}, of(0)); len(groups) > 0 || e != api.ErrRange {
		t.Errorf("Groups of no things without one is %v, %d", groups, e)
	}
}

// P8.3
func TestCheckPairing(t *testing.T) {
	for _, x := range []struct {
		name  string
		s     api.MatchStock
		mates []int
		want  int
		e     api.Errno
	}{
		{"of the chapter: best", chapter(), of(1, 0, -1, 4, 3, 6, 5), 3, api.OK},
		{"of the chapter: less", chapter(), of(1, 0, -1, 5, -1, 3, -1), 2, api.OK},
		{"of the chapter: not each other's", chapter(), of(1, 2, 0, -1, -1, -1, -1), 0, api.ErrRule},
		{"all alone", chapter(), of(-1, -1, -1, -1, -1, -1, -1), 0, api.OK},
		{"no things", api.MatchStock{}, nil, 0, api.OK},
		{"one thing", alike(1), of(-1), 0, api.OK},
		{"its own mate", alike(1), of(0), 0, api.ErrRule},
		{"two do not suit each other", chapter(), of(-1, 2, 1, -1, -1, -1, -1), 0, api.ErrRule},
		{"the mate is alone", chapter(), of(1, -1, -1, -1, -1, -1, -1), 0, api.ErrRule},
		{"the mate has another one", chapter(), of(1, 0, 0, -1, -1, -1, -1), 0, api.ErrRule},
		{"round three", alike(3), of(1, 2, 0), 0, api.ErrRule},
		{"most things", alike(16), of(15, 14, 13, 12, 11, 10, 9, 8, 7, 6, 5, 4, 3, 2, 1, 0), 8, api.OK},
		{"nothing for things", chapter(), nil, 0, api.ErrEqual},
		{"too few", chapter(), of(1, 0, -1, 4, 3, 6), 0, api.ErrEqual},
		{"too many", chapter(), of(1, 0, -1, 4, 3, 6, 5, -1), 0, api.ErrEqual},
		{"too many for no things", api.MatchStock{}, of(-1), 0, api.ErrEqual},
		{"too many come before what is no thing", chapter(), of(-2, 7, -1, 4, 3, 6, 5, -1), 0, api.ErrEqual},
		{"no thing", chapter(), of(1, 0, -1, 4, 3, 7, -1), 0, api.ErrRange},
		{"below -1", chapter(), of(1, 0, -2, 4, 3, 6, 5), 0, api.ErrRange},
		{"far off", chapter(), of(1, 0, math.MaxInt, 4, 3, 6, 5), 0, api.ErrRange},
		{"far below 0", chapter(), of(1, 0, math.MinInt, 4, 3, 6, 5), 0, api.ErrRange},
		{"no thing comes before what is not right", chapter(), of(1, 2, 0, -1, -1, -1, 7), 0, api.ErrRange},
	} {
		if n, e := match.CheckPairing(x.s, x.mates); n != x.want || e != x.e {
			t.Errorf("%s: CheckPairing is %d, %d, not %d, %d", x.name, n, e, x.want, x.e)
		}
	}
}

// bestCases tell what is known of stocks: how many pairs best pairings have, how many these are, and the kinds of the things.
var bestCases = []struct {
	name  string
	s     api.MatchStock
	pairs int
	count int64
	kinds []int
}{
	{"of the chapter", chapter(), 3, 2, of(2, 1, 1, 2, 2, 2, 2)},
	{"no things", api.MatchStock{}, 0, 1, nil},
	{"one thing", alike(1), 0, 1, of(0)},
	{"no mates", web(5), 0, 1, of(0, 0, 0, 0, 0)},
	{"two", alike(2), 1, 1, of(2, 2)},
	{"three", alike(3), 1, 3, of(1, 1, 1)},
	{"most things", alike(16), 8, 2027025, slices.Repeat(of(2), 16)},
	{"most but one", alike(15), 7, 2027025, slices.Repeat(of(1), 15)},
	{"halves", halves(8, 8), 8, 40320, slices.Repeat(of(2), 16)},
	{"too few of one half", halves(5, 11), 5, 55440, append(slices.Repeat(of(2), 5), slices.Repeat(of(1), 11)...)},
	{"none of one half", halves(0, 16), 0, 1, make([]int, 16)},
	{"an even ring", ring(8), 4, 2, slices.Repeat(of(2), 8)},
	{"an odd ring", ring(9), 4, 9, slices.Repeat(of(1), 9)},
	{"a row", web(4, 0, 1, 1, 2, 2, 3), 2, 1, of(2, 2, 2, 2)},
	{"an odd row", web(5, 0, 1, 1, 2, 2, 3, 3, 4), 2, 3, of(1, 2, 1, 2, 1)},
	{"a star", web(5, 0, 1, 0, 2, 0, 3), 1, 3, of(2, 1, 1, 1, 0)},
	{"an even ring with a stem", web(6, 0, 1, 1, 2, 2, 3, 3, 4, 4, 5, 5, 2), 3, 2, of(2, 2, 2, 2, 2, 2)},
	{"an odd ring with a stem", web(5, 0, 1, 1, 2, 2, 3, 3, 4, 4, 2), 2, 4, of(1, 2, 1, 1, 1)},
	{"two rings that share a thing", web(5, 0, 1, 1, 2, 2, 0, 2, 3, 3, 4, 4, 2), 2, 5, of(1, 1, 1, 1, 1)},
	{"two rings and a bridge", web(6, 0, 1, 1, 2, 2, 0, 3, 4, 4, 5, 5, 3, 0, 3), 3, 1, of(2, 2, 2, 2, 2, 2)},
	{"a way round both sides of a ring", web(9, 0, 1, 1, 2, 2, 3, 1, 4, 4, 5, 3, 5, 6, 7, 2, 7, 0, 8, 6, 8), 4, 11, slices.Repeat(of(1), 9)},
	{"Petersen's graph", web(10, 0, 1, 1, 2, 2, 3, 3, 4, 4, 0, 0, 5, 1, 6, 2, 7, 3, 8, 4, 9, 5, 7, 7, 9, 9, 6, 6, 8, 8, 5), 5, 6, slices.Repeat(of(2), 10)},
	{"flowers", flowers(), 7, 2025, append(slices.Repeat(of(1), 15), 2)},
}

// P8.4, P8.5, P8.6 (Kinds), P8.7
func TestBest(t *testing.T) {
	for _, x := range bestCases {
		mates, pairs, e := match.Best(x.s)
		if pairs != x.pairs || e != api.OK {
			t.Errorf("%s: Best has %d pairs, %d, not %d", x.name, pairs, e, x.pairs)
		}
		if n, e := match.CheckPairing(x.s, mates); n != x.pairs || e != api.OK {
			t.Errorf("%s: CheckPairing of Best %v is %d, %d, not %d", x.name, mates, n, e, x.pairs)
		}
		cut, e := match.Cut(x.s)
		if e != api.OK {
			t.Errorf("%s: Cut is %d", x.name, e)
		}
		if bound, e := match.CheckCut(x.s, cut); bound != x.pairs || e != api.OK {
			t.Errorf("%s: CheckCut of Cut %v is %d, %d, not %d", x.name, cut, bound, e, x.pairs)
		}
		if count, e := match.Count(x.s); count != x.count || e != api.OK {
			t.Errorf("%s: Count is %d, %d, not %d", x.name, count, e, x.count)
		}
		if kinds, e := match.Kinds(x.s); !slices.Equal(kinds, x.kinds) || e != api.OK {
			t.Errorf("%s: Kinds is %v, %d, not %v", x.name, kinds, e, x.kinds)
		}
	}
}

// P8.5 (CheckCut)
func TestCheckCut(t *testing.T) {
	for _, x := range []struct {
		name string
		s    api.MatchStock
		cut  []int
		want int
	}{
		{"of the chapter: none", chapter(), nil, 3},
		{"of the chapter: 0", chapter(), of(0), 3},
		{"of the chapter: 1", chapter(), of(1), 4},
		{"of the chapter: 0 and 5", chapter(), of(0, 5), 3},
		{"an empty list", chapter(), of(), 3},
		{"all", chapter(), of(0, 1, 2, 3, 4, 5, 6), 7},
		{"no things", api.MatchStock{}, nil, 0},
		{"all alone", web(5), nil, 0},
		{"one of them", web(5), of(2), 1},
		{"a star", web(5, 0, 1, 0, 2, 0, 3), of(0), 1},
		{"a star, without a cut", web(5, 0, 1, 0, 2, 0, 3), nil, 2},
		{"flowers", flowers(), of(15), 7},
		{"flowers, without a cut", flowers(), nil, 8},
		{"most things", alike(16), of(0, 1, 2, 3, 4, 5, 6, 7, 8, 9, 10, 11, 12, 13, 14, 15), 16},
	} {
		if bound, e := match.CheckCut(x.s, x.cut); bound != x.want || e != api.OK {
			t.Errorf("%s: CheckCut is %d, %d, not %d", x.name, bound, e, x.want)
		}
	}
	for _, list := range listCases {
		if bound, e := match.CheckCut(chapter(), list); bound != 0 || e != api.ErrRange {
			t.Errorf("CheckCut of %v is %d, %d", list, bound, e)
		}
	}
}

// P8.6 (Pair)
func TestPair(t *testing.T) {
	row := web(4, 0, 1, 1, 2, 2, 3)
	for _, x := range []struct {
		name     string
		s        api.MatchStock
		one, two int
		want     int
	}{
		{"of the chapter: 0 1", chapter(), 0, 1, api.MatchMay},
		{"of the chapter: 3 4", chapter(), 3, 4, api.MatchAlways},
		{"of the chapter: 3 5", chapter(), 3, 5, api.MatchNever},
		{"of the chapter: 1 2", chapter(), 1, 2, api.MatchNever},
		{"they suit no more", chapter(), 3, 6, api.MatchNever},
		{"a thing with itself", chapter(), 3, 3, api.MatchNever},
		{"a thing with itself, of a kind that goes with itself", alike(2), 1, 1, api.MatchNever},
		{"the only pair", alike(2), 0, 1, api.MatchAlways},
		{"one of three", alike(3), 0, 2, api.MatchMay},
		{"at the end of a row", row, 0, 1, api.MatchAlways},
		{"within a row", row, 1, 2, api.MatchNever},
		{"most things", alike(16), 3, 12, api.MatchMay},
		{"halves of one kind", halves(8, 8), 0, 7, api.MatchNever},
		{"halves", halves(8, 8), 0, 15, api.MatchMay},
		{"a bridge", web(6, 0, 1, 1, 2, 2, 0, 3, 4, 4, 5, 5, 3, 0, 3), 0, 3, api.MatchAlways},
		{"beside a bridge", web(6, 0, 1, 1, 2, 2, 0, 3, 4, 4, 5, 5, 3, 0, 3), 0, 1, api.MatchNever},
		{"nothing suits", web(3), 0, 1, api.MatchNever},
	} {
		for _, two := range [][2]int{{x.one, x.two}, {x.two, x.one}} {
			if kind, e := match.Pair(x.s, two[0], two[1]); kind != x.want || e != api.OK {
				t.Errorf("%s: Pair of %v is %d, %d, not %d", x.name, two, kind, e, x.want)
			}
		}
	}
}

// R4, R9, R10
func TestMemory(t *testing.T) {
	s, without, mates := chapter(), of(0, 5), of(1, 0, -1, 4, 3, 6, 5)
	wantMates, _, _ := match.Best(s)
	wantCut, _ := match.Cut(s)
	wantMates, wantCut = slices.Clone(wantMates), slices.Clone(wantCut)
	for range 2 {
		errorsOf(s, without, 0, 1)
		errorsOf(s, mates, 3, 4)
		groups, _ := match.Groups(s, without)
		best, _, _ := match.Best(s)
		cut, _ := match.Cut(s)
		kinds, _ := match.Kinds(s)
		all := [][]int{best, cut, kinds}
		if !equal(groups, [][]int{{1}, {2}, {3, 4}, {6}}) || !equal(all, [][]int{wantMates, wantCut, {2, 1, 1, 2, 2, 2, 2}}) {
			t.Errorf("another call returns %v, %v", groups, all)
		}
		for i, list := range groups {
			// What is written into one list, or grows out of it, must not come into another one.
			list = list[:cap(list)]
			for at := range list {
				list[at] = 77
			}
			if i+1 < len(groups) && slices.Contains(groups[i+1], 77) {
				t.Errorf("groups share memory: %v", groups)
			}
		}
		for _, list := range all {
			for at := range list {
				list[at] = 77
			}
		}
	}
	if !reflect.DeepEqual(s, chapter()) || !slices.Equal(without, of(0, 5)) || !slices.Equal(mates, of(1, 0, -1, 4, 3, 6, 5)) {
		t.Errorf("an argument has changed: %v, %v, %v", s, without, mates)
	}
}
