package cross_test

import (
	"math"
	"math/big"
	"math/rand"
	"slices"
	"testing"

	"bolster/api"
	"bolster/cross"
)

// ats returns so many Ats, near each other or far apart.
func (c chance) ats(stations int) []int64 {
	wide := []int{stations, stations + 10, 1001}[c.Intn(3)]
	first := c.Intn(1001 - wide + 1)
	var list []int64
	for _, at := range c.Perm(wide)[:stations] {
		list = append(list, int64(first+at))
	}
	slices.Sort(list)
	return list
}

// curve returns what tells heights that are bent by so much, from the least place on.
func curve(ats []int64, place, most, least int64) func(at int64) int64 {
	far := max(1, ats[len(ats)-1]-place, place-ats[0])
	return func(at int64) int64 { return least + most*(at-place)*(at-place)/(far*far) }
}

// high returns a valid High round a height, wide by up to so much to either side.
func (c chance) high(middle, wide int64) api.Range {
	lo := max(-1000, min(1000, middle-c.from(0, wide)))
	return rg(lo, max(lo, min(1000, middle+c.from(0, wide))))
}

// large returns a pair of up to so many stations: bent, on a line, or anything.
func (c chance) large(stations int) []api.CrossStation {
	ats := c.ats(1 + c.Intn(stations))
	middle := curve(ats, c.from(0, 1000), c.from(0, 1500), c.from(-1000, 0))
	wide := []int64{0, 1, 10, 100, 1000}[c.Intn(5)]
	switch c.Intn(4) {
	case 0:
		high, slope := c.from(-900, 900), c.from(-2, 2)
		middle = func(at int64) int64 { return high + slope*(at-ats[0])/2 }
	case 1:
		middle = func(at int64) int64 { return c.from(-1000, 1000) }
	}
	var l []api.CrossStation
	for _, at := range ats {
		l = append(l, api.CrossStation{At: at, High: c.high(middle(at), wide)})
	}
	return l
}

// manyPairs runs a test for so many pairs of all sizes.
func manyPairs(t *testing.T, n int, test func(c chance, l []api.CrossStation)) {
	c := chance{rand.New(rand.NewSource(2))}
	for range n {
		l := c.large([]int{3, 6, 12, 25}[c.Intn(4)])
		if e := cross.CheckPair(l); e != api.OK {
			t.Fatalf("%v: CheckPair is %d", l, e)
		}
		test(c, l)
		if t.Failed() {
			return
		}
	}
}

// truth returns a truth: anything, or with each height at an end, or all at the same one.
func (c chance) truth(l []api.CrossStation) []int64 {
	kind := c.Intn(4)
	var truth []int64
	for _, s := range l {
		ends := list(s.High.Lo, s.High.Hi)
		switch kind {
		case 0:
			truth = append(truth, c.from(s.High.Lo, s.High.Hi))
		case 1:
			truth = append(truth, ends[c.Intn(2)])
		default:
			truth = append(truth, ends[kind-2])
		}
	}
	return truth
}

// tilt returns a tilt: one between stations, anything, or nearly flat; most are not in least terms.
func (c chance) tilt(l []api.CrossStation, truth []int64) api.Ratio {
	den := c.from(1, 1000000)
	switch c.Intn(3) {
	case 0:
		return rat(c.from(-10000*den, 10000*den), den)
	case 1:
		return rat(c.from(-2*den, 2*den), den)
	}
	one, two := c.Intn(len(l)), c.Intn(len(l))
	if one >= two {
		return rat(0, den)
	}
	times := c.from(1, 1000)
	return rat((truth[two]-truth[one])*times, (l[two].At-l[one].At)*times)
}

// compared compares two ratios.
func compared(one, two api.Ratio) int { return bigOf(one).Cmp(bigOf(two)) }

// within reports whether a ratio is in a span.
func within(x api.Ratio, s api.CrossSpan) bool {
	return compared(s.Lo, x) <= 0 && compared(x, s.Hi) <= 0
}

// contains reports whether a span contains another one.
func contains(s, other api.CrossSpan) bool { return within(other.Lo, s) && within(other.Hi, s) }

// isSpan reports whether a span is as promised: in least terms, and Lo at most Hi.
func isSpan(s api.CrossSpan) bool {
	return s.Lo == leastTerms(bigOf(s.Lo)) && s.Hi == leastTerms(bigOf(s.Hi)) && compared(s.Lo, s.Hi) <= 0
}

// spans is what is told of a station.
type spans struct {
	can, sure, ground api.CrossSpan
	canMeet, sureMeet bool
	kind              int
}

// spansOf returns what is told of each station, and reports what cannot be.
func spansOf(t *testing.T, l []api.CrossStation) []spans {
	t.Helper()
	kinds, e := cross.Kinds(l)
	if e != api.OK || len(kinds) != len(l) {
		t.Fatalf("%v: Kinds is %v, %d", l, kinds, e)
	}
	var all []spans
	for i, kind := range kinds {
		can, e1 := cross.Can(l, i)
		sure, e2 := cross.Sure(l, i)
		ground, e3 := cross.Ground(l, i)
		x := spans{can, sure, ground, e1 == api.OK, e2 == api.OK, kind}
		if !x.canMeet && e1 != api.ErrGape || !x.sureMeet && e2 != api.ErrGape || e3 != api.OK {
			t.Errorf("%v: at %d Can is %d, Sure %d, Ground %d", l, i, e1, e2, e3)
		}
		if x.canMeet && !isSpan(can) || x.sureMeet && (!isSpan(sure) || !contains(can, sure)) || !isSpan(ground) || ground.Lo.Num < 0 {
			t.Errorf("%v: at %d there are %v", l, i, x)
		}
		all = append(all, x)
	}
	return all
}

// P6.6, P6.7, P6.9
func TestEither(t *testing.T) {
	told := map[bool]int{}
	manyPairs(t, 500, func(c chance, l []api.CrossStation) {
		told[proved(t, l)]++
		for range 5 {
			heights := c.near(l)
			want := heightsError(l, heights)
			if e := cross.CheckHeights(l, heights); e != want {
				t.Errorf("%v: CheckHeights of %v is %d, not %d", l, heights, e, want)
			}
		}
	})
	if told[true] < 80 || told[false] < 80 {
		t.Errorf("too few pairs tell something: %v", told)
	}
}

// P6.10
func TestKindsAgree(t *testing.T) {
	told := map[int]int{}
	manyPairs(t, 400, func(c chance, l []api.CrossStation) {
		bent := make([]bool, len(l))
		for _, w := range wedgesOf(l) {
			bent[w[1]] = true
		}
		for i, x := range spansOf(t, l) {
			never, always := x.kind == api.CrossNever, x.kind == api.CrossAlways
			if never == x.canMeet || never != bent[i] || never != (x.ground.Lo.Num > 0) {
				t.Errorf("%v: the kind of %d is %d, but there are %v, and it is second in a wedge: %v", l, i, x.kind, x, bent[i])
			}
			if always != x.sureMeet || always != (x.ground.Hi.Num == 0) || (i == 0 || i == len(l)-1) && !always {
				t.Errorf("%v: the kind of %d is %d, but there are %v", l, i, x.kind, x)
			}
			if x.kind < 0 || x.kind > 2 {
				t.Errorf("%v: the kind of %d is %d", l, i, x.kind)
			}
			if 0 < i && i < len(l)-1 {
				told[x.kind]++
			}
		}
	})
	for kind := range 3 {
		if told[kind] < 200 {
			t.Errorf("too few stations tell something: %v", told)
		}
	}
}

// P6.11 (the tilts)
func TestTravels(t *testing.T) {
	several := 0
	manyPairs(t, 300, func(c chance, l []api.CrossStation) {
		truth := c.truth(l)
		var tilts []api.Ratio
		for range 20 {
			tilts = append(tilts, c.tilt(l, truth))
		}
		slices.SortFunc(tilts, compared)
		var before []int
		for i, tilt := range tilts {
			names, e := cross.Contact(l, truth, tilt)
			if len(names) == 0 || e != api.OK || !slices.Equal(names, namesOf(touching(l, truth, tilt))) {
				t.Errorf("%v: Contact of %v at %v is %v, %d", l, truth, tilt, names, e)
			}
			if i > 0 && compared(tilts[i-1], tilt) < 0 && names[0] < before[len(before)-1] {
				t.Errorf("%v: Contact of %v at %v is %v, but %v at %v", l, truth, tilt, names, before, tilts[i-1])
			}
			if len(names) > 1 {
				several++
			}
			before = names
		}
	})
	if several < 300 {
		t.Errorf("blades touch %d times at several stations: too few tell something", several)
	}
}

// P6.11 (the spans; where a truth gapes somewhere, too, there is no gap between the others), P6.3
func TestFollow(t *testing.T) {
	whole := 0
	manyPairs(t, 400, func(c chance, l []api.CrossStation) {
		truth := c.truth(l)
		end, meet := rat(-10000, 1), 0
		for i := range l {
			s, e := cross.Tilts(l, truth, i)
			if ground := groundOf(l, bigs(truth), i); (e == api.OK) != (ground.Sign() == 0) || e != api.OK && e != api.ErrGape {
				t.Errorf("%v: Tilts of %v at %d is %v, %d, but %v is ground", l, truth, i, s, e, ground)
			}
			if e != api.OK {
				continue
			}
			if s.Lo != end || !isSpan(s) {
				t.Errorf("%v: Tilts of %v at %d is %v, after %v", l, truth, i, s, end)
			}
			end = s.Hi
			meet++
			for _, tilt := range []api.Ratio{s.Lo, s.Hi} {
				if names, e := cross.Contact(l, truth, tilt); e != api.OK || !slices.Contains(names, i) {
					t.Errorf("%v: Contact of %v at %v is %v, %d, but %v are the Tilts at %d", l, truth, tilt, names, e, s, i)
				}
			}
		}
		if end != rat(10000, 1) {
			t.Errorf("%v: the Tilts of %v end at %v", l, truth, end)
		}
		if meet == len(l) && meet > 3 {
			whole++
		}
	})
	if whole < 20 {
		t.Errorf("%d truths meet everywhere: too few tell something", whole)
	}
}

// P6.12 (tilts), P6.4, P6.8
func TestWithin(t *testing.T) {
	manyPairs(t, 200, func(c chance, l []api.CrossStation) {
		all := spansOf(t, l)
		for range 20 {
			truth := c.truth(l)
			tilt := c.tilt(l, truth)
			if x := all[c.Intn(len(l))]; x.sureMeet { // at the ends of what is sure, too
				tilt = []api.Ratio{tilt, x.sure.Lo, x.sure.Hi}[c.Intn(3)]
			}
			names, _ := cross.Contact(l, truth, tilt)
			for i, x := range all {
				touch := slices.Contains(names, i)
				if touch && (!x.canMeet || !within(tilt, x.can)) {
					t.Errorf("%v: Contact of %v at %v is %v, but Can of %d %v", l, truth, tilt, names, i, x.can)
				}
				if !touch && x.sureMeet && within(tilt, x.sure) {
					t.Errorf("%v: Contact of %v at %v is %v, but Sure of %d %v", l, truth, tilt, names, i, x.sure)
				}
				if ground := leastTerms(groundOf(l, bigs(truth), i)); !within(ground, x.ground) {
					t.Errorf("%v: in the truth %v, %v is ground at %d, but Ground is %v", l, truth, ground, i, x.ground)
				}
			}
		}
	})
}

// extreme returns the truth in which a station is at one end of its High, and all others are at the other one.
func extreme(l []api.CrossStation, station int, high bool) []int64 {
	var truth []int64
	for i, s := range l {
		if (i == station) == high {
			truth = append(truth, s.High.Hi)
		} else {
			truth = append(truth, s.High.Lo)
		}
	}
	return truth
}

// P6.4, P6.8 (the ends are reached)
func TestReached(t *testing.T) {
	manyPairs(t, 200, func(c chance, l []api.CrossStation) {
		for i, x := range spansOf(t, l) {
			can, e := cross.Tilts(l, extreme(l, i, false), i)
			if can != x.can || (e == api.OK) != x.canMeet {
				t.Errorf("%v: Can of %d is %v, but Tilts %v, %d in a truth", l, i, x.can, can, e)
			}
			sure, e := cross.Tilts(l, extreme(l, i, true), i)
			if sure != x.sure || (e == api.OK) != x.sureMeet {
				t.Errorf("%v: Sure of %d is %v, but Tilts %v, %d in a truth", l, i, x.sure, sure, e)
			}
			least := leastTerms(groundOf(l, bigs(extreme(l, i, false)), i))
			most := leastTerms(groundOf(l, bigs(extreme(l, i, true)), i))
			if x.ground.Lo != least || x.ground.Hi != most {
				t.Errorf("%v: Ground of %d is %v, not %v to %v", l, i, x.ground, least, most)
			}
		}
	})
}

// P6.12 (a narrower High)
func TestNarrower(t *testing.T) {
	narrower := 0
	manyPairs(t, 300, func(c chance, l []api.CrossStation) {
		less := slices.Clone(l)
		high := &less[c.Intn(len(l))].High
		high.Lo = c.from(high.Lo, high.Hi)
		high.Hi = c.from(high.Lo, high.Hi)
		before, after := spansOf(t, l), spansOf(t, less)
		for i, x := range before {
			y := after[i]
			if y.canMeet && (!x.canMeet || !contains(x.can, y.can)) {
				t.Errorf("%v: Can of %d is %v, and %v for %v", l, i, x.can, y.can, less)
			}
			if x.sureMeet && (!y.sureMeet || !contains(y.sure, x.sure)) {
				t.Errorf("%v: Sure of %d is %v, and %v for %v", l, i, x.sure, y.sure, less)
			}
			if !contains(x.ground, y.ground) {
				t.Errorf("%v: Ground of %d is %v, and %v for %v", l, i, x.ground, y.ground, less)
			}
			if x != y {
				narrower++
			}
		}
	})
	if narrower < 500 {
		t.Errorf("%d stations differ with a narrower High: too few tell something", narrower)
	}
}

// moved returns a span moved by a number, but for ends that are least and greatest.
func moved(s api.CrossSpan, by int64) api.CrossSpan {
	move := func(x api.Ratio) api.Ratio {
		if x == rat(-10000, 1) || x == rat(10000, 1) {
			return x
		}
		return leastTerms(new(big.Rat).Add(bigOf(x), big.NewRat(by, 1)))
	}
	return api.CrossSpan{Lo: move(s.Lo), Hi: move(s.Hi)}
}

// tilted returns a pair whose Highs are greater by a number times their Ats, and whether it is valid.
func tilted(l []api.CrossStation, by int64) ([]api.CrossStation, bool) {
	more := slices.Clone(l)
	for i, s := range l {
		more[i].High = rg(s.High.Lo+by*s.At, s.High.Hi+by*s.At)
	}
	return more, cross.CheckPair(more) == api.OK
}

// P6.13 (tilted)
func TestTilted(t *testing.T) {
	looked := 0
	manyPairs(t, 1500, func(c chance, l []api.CrossStation) {
		by := []int64{-20, -3, -1, 1, 2, 13}[c.Intn(6)]
		more, ok := tilted(l, by)
		if !ok || len(l) < 3 {
			return
		}
		looked++
		before, after := spansOf(t, l), spansOf(t, more)
		for i, x := range before {
			if x.canMeet {
				x.can = moved(x.can, by)
			}
			if x.sureMeet {
				x.sure = moved(x.sure, by)
			}
			if x != after[i] {
				t.Errorf("%v: there are %v at %d, not %v, for %v", l, x, i, after[i], more)
			}
		}
		w, e := cross.Wedge(l)
		if v, f := cross.Wedge(more); v != w || f != e {
			t.Errorf("%v: Wedge is %v, %d, and %v, %d for %v", l, w, e, v, f, more)
		}
	})
	if looked < 100 {
		t.Errorf("%d pairs are tilted: too few tell something", looked)
	}
}

// turnedRound returns a pair whose last station is the first one.
func turnedRound(l []api.CrossStation) []api.CrossStation {
	back := slices.Clone(l)
	slices.Reverse(back)
	for i := range back {
		back[i].At = 1000 - back[i].At
	}
	return back
}

// signed returns a span with the other sign.
func signed(s api.CrossSpan) api.CrossSpan {
	return span(-s.Hi.Num, s.Hi.Den, -s.Lo.Num, s.Lo.Den)
}

// P6.13 (turned round)
func TestTurnedRound(t *testing.T) {
	manyPairs(t, 300, func(c chance, l []api.CrossStation) {
		back := turnedRound(l)
		before, after := spansOf(t, l), spansOf(t, back)
		for i, x := range before {
			if x.canMeet {
				x.can = signed(x.can)
			}
			if x.sureMeet {
				x.sure = signed(x.sure)
			}
			if y := after[len(l)-1-i]; x != y {
				t.Errorf("%v: there are %v at %d, not %v, turned round", l, x, i, y)
			}
		}
		_, e := cross.Wedge(l)
		if w, f := cross.Wedge(back); f != e {
			t.Errorf("%v: Wedge is %d, and %v, %d turned round", l, e, w, f)
		}
		heights, _ := cross.Heights(l)
		turned, _ := cross.Heights(back)
		slices.Reverse(turned)
		if !slices.Equal(heights, turned) {
			t.Errorf("%v: Heights is %v, and %v turned round", l, heights, turned)
		}
	})
}

// odd returns a number that is hardly ever valid, or just valid.
func (c chance) odd() int64 {
	ends := list(math.MinInt64, math.MinInt64+1, -1000000, -10000, -1001, -1000, -1, 0, 1, 2, 25, 1000, 1001, 10000, 1000000, 1<<32, math.MaxInt64-1, math.MaxInt64)
	return ends[c.Intn(len(ends))]
}

// P1, R2
func TestAnyArguments(t *testing.T) {
	c := chance{rand.New(rand.NewSource(3))}
	for range 3000 {
		l := c.large(4)
		truth := c.truth(l)
		tilt, station := rat(c.odd(), c.odd()), int(c.odd())
		var heights []api.Ratio
		for i := range l {
			heights = append(heights, rat(c.odd(), c.odd()))
			if c.Intn(4) == 0 {
				truth[i] = c.odd()
			}
			if c.Intn(8) == 0 {
				l[i] = pairOf(c.odd(), c.odd(), c.odd())[0]
			}
		}
		for function, e := range errorsOf(l, truth, tilt, station, heights) {
			if e < 0 {
				t.Errorf("%s of %v, %v, %v, %d, %v returns something with an error", function, l, truth, tilt, station, heights)
			}
		}
	}
}
