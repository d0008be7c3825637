package cross_test

import (
	"fmt"
	"math/big"
	"math/rand"
	"slices"
	"testing"

	"bolster/api"
	"bolster/cross"
)

// The model looks at each truth of a small pair, and at each tilt of a grid, as the chapter defines it. Stations lie at multiples of a step, at most 4 of them apart from each other: each slope is a multiple of 1 / 12 of 1 / step, and so is where blades begin to touch, or end, but for the least and the greatest tilt.

// pair is a pair of blades of which the model tells everything.
type pair struct {
	l      []api.CrossStation
	truths [][]int64
	tilts  []api.Ratio // increasing, not in least terms
	touch  [][][]bool  // for each truth, each tilt and each station, whether blades touch
}

// text tells what a pair is, for a test that fails.
func (p pair) text() string { return fmt.Sprint(p.l) }

// truthsOf returns all truths of a pair.
func truthsOf(l []api.CrossStation) [][]int64 {
	all := [][]int64{nil}
	for _, s := range l {
		var longer [][]int64
		for _, truth := range all {
			for high := s.High.Lo; high <= s.High.Hi; high++ {
				longer = append(longer, append(slices.Clone(truth), high))
			}
		}
		all = longer
	}
	return all
}

// gridOf returns tilts that are multiples of 1 / den, up to a greatest one, and the least and the greatest tilt.
func gridOf(den, most int64) []api.Ratio {
	grid := []api.Ratio{rat(-10000, 1)}
	for num := -most; num <= most; num++ {
		grid = append(grid, rat(num, den))
	}
	return append(grid, rat(10000, 1))
}

// touching reports of each station whether blades touch there.
func touching(l []api.CrossStation, truth []int64, tilt api.Ratio) []bool {
	var above []int64
	for i, s := range l {
		above = append(above, truth[i]*tilt.Den-tilt.Num*s.At)
	}
	var touch []bool
	for _, n := range above {
		touch = append(touch, n == slices.Min(above))
	}
	return touch
}

// namesOf returns the indices that are true.
func namesOf(touch []bool) []int {
	var names []int
	for i, is := range touch {
		if is {
			names = append(names, i)
		}
	}
	return names
}

// newPair returns a pair, and what the model tells of it.
func newPair(l []api.CrossStation, step int64) pair {
	p := pair{l: l, truths: truthsOf(l), tilts: gridOf(12*step, 12*7)}
	for _, truth := range p.truths {
		var touch [][]bool
		for _, tilt := range p.tilts {
			touch = append(touch, touching(l, truth, tilt))
		}
		p.touch = append(p.touch, touch)
	}
	return p
}

// leastTerms returns a ratio in least terms.
func leastTerms(x *big.Rat) api.Ratio { return rat(x.Num().Int64(), x.Denom().Int64()) }

// bigOf returns a ratio as a number of the library.
func bigOf(x api.Ratio) *big.Rat { return big.NewRat(x.Num, x.Den) }

// bigs returns whole numbers as numbers of the library.
func bigs(numbers []int64) []*big.Rat {
	var list []*big.Rat
	for _, n := range numbers {
		list = append(list, big.NewRat(n, 1))
	}
	return list
}

// span returns from the least to the greatest tilt at which something is so, or ErrGape if there is none.
func (p pair) span(isSo func(tilt int) bool) (api.CrossSpan, api.Errno) {
	var s api.CrossSpan
	found := false
	for i, tilt := range p.tilts {
		if isSo(i) {
			if !found {
				s.Lo = leastTerms(bigOf(tilt))
			}
			s.Hi, found = leastTerms(bigOf(tilt)), true
		}
	}
	if !found {
		return s, api.ErrGape
	}
	return s, api.OK
}

// inSome and inEach report whether blades touch at a station, at a tilt, in some truth, and in each.
func (p pair) inSome(tilt, station int) bool {
	return slices.ContainsFunc(p.touch, func(touch [][]bool) bool { return touch[tilt][station] })
}
func (p pair) inEach(tilt, station int) bool {
	return !slices.ContainsFunc(p.touch, func(touch [][]bool) bool { return !touch[tilt][station] })
}

// meets reports whether blades meet at a station in a truth.
func (p pair) meets(truth, station int) bool {
	return slices.ContainsFunc(p.touch[truth], func(touch []bool) bool { return touch[station] })
}

// kind returns the kind of a station.
func (p pair) kind(station int) int {
	meet := 0
	for truth := range p.truths {
		if p.meets(truth, station) {
			meet++
		}
	}
	switch meet {
	case 0:
		return api.CrossNever
	case len(p.truths):
		return api.CrossAlways
	}
	return api.CrossMay
}

// lineOf returns how high the line from a station to a later one is at one between them.
func lineOf(l []api.CrossStation, one, at, two int, highOne, highTwo *big.Rat) *big.Rat {
	part := big.NewRat(l[at].At-l[one].At, l[two].At-l[one].At)
	rise := new(big.Rat).Sub(highTwo, highOne)
	return rise.Add(highOne, rise.Mul(rise, part))
}

// leastLine returns the least line at a station, or nil if there is none.
func leastLine(l []api.CrossStation, heights []*big.Rat, at int) *big.Rat {
	var least *big.Rat
	for one := range at {
		for two := at + 1; two < len(l); two++ {
			if line := lineOf(l, one, at, two, heights[one], heights[two]); least == nil || line.Cmp(least) < 0 {
				least = line
			}
		}
	}
	return least
}

// groundOf returns what is ground at a station.
func groundOf(l []api.CrossStation, heights []*big.Rat, at int) *big.Rat {
	line := leastLine(l, heights, at)
	if line == nil || line.Cmp(heights[at]) > 0 {
		return new(big.Rat)
	}
	return line.Sub(heights[at], line)
}

// isWedge reports whether three stations are a wedge.
func isWedge(l []api.CrossStation, one, two, three int) bool {
	line := lineOf(l, one, two, three, big.NewRat(l[one].High.Hi, 1), big.NewRat(l[three].High.Hi, 1))
	return line.Cmp(big.NewRat(l[two].High.Lo, 1)) < 0
}

// wedgesOf returns all wedges in lexicographic order.
func wedgesOf(l []api.CrossStation) [][3]int {
	var all [][3]int
	for one := range l {
		for two := one + 1; two < len(l); two++ {
			for three := two + 1; three < len(l); three++ {
				if isWedge(l, one, two, three) {
					all = append(all, [3]int{one, two, three})
				}
			}
		}
	}
	return all
}

// heightsError returns the error of CheckHeights for a ratio of each station, none of whose Dens is 0.
func heightsError(l []api.CrossStation, heights []api.Ratio) api.Errno {
	var list []*big.Rat
	for i, h := range heights {
		list = append(list, bigOf(h))
		isLow, isHigh := list[i].Cmp(big.NewRat(l[i].High.Lo, 1)) < 0, list[i].Cmp(big.NewRat(l[i].High.Hi, 1)) > 0
		if h.Den < 1 || h.Den > 1000 || isLow || isHigh {
			return api.ErrRange
		}
	}
	for i := range l {
		if groundOf(l, list, i).Sign() > 0 {
			return api.ErrGape
		}
	}
	return api.OK
}

// areGreatest reports whether heights that meet are the greatest ones: each is the greatest one that is allowed, or on a line between two that are.
func areGreatest(l []api.CrossStation, heights []api.Ratio) bool {
	isTop := func(i int) bool { return heights[i] == rat(l[i].High.Hi, 1) }
	for i, h := range heights {
		proved := isTop(i)
		for one := range i {
			for two := i + 1; two < len(l); two++ {
				if isTop(one) && isTop(two) && lineOf(l, one, i, two, bigOf(heights[one]), bigOf(heights[two])).Cmp(bigOf(h)) == 0 {
					proved = true
				}
			}
		}
		if !proved {
			return false
		}
	}
	return true
}

// chance makes pairs that are always the same ones.
type chance struct{ *rand.Rand }

func (c chance) from(lo, hi int64) int64 { return lo + c.Int63n(hi-lo+1) }

// small returns a pair of up to 5 stations, at multiples of a step, whose heights are at most 7 apart.
func (c chance) small(step int64) []api.CrossStation {
	var l []api.CrossStation
	first := c.from(0, min(1000/step-4, 50))
	base := []int64{0, 0, 996, -997, c.from(-900, 900)}[c.Intn(5)]
	bend, wide := c.from(-1, 2), c.from(0, 3)
	for place := range int64(5) {
		if c.Intn(4) == 0 && (place < 4 || len(l) > 0) {
			continue
		}
		middle := base + bend*(place-2)*(place-2)/2 + c.from(-1, 1)
		lo := min(base+4, max(base-3, middle-c.from(0, wide)))
		hi := min(base+4, max(lo, middle+c.from(0, wide)-wide/2))
		l = append(l, pairOf((first+place)*step, lo, min(hi, lo+3))...)
	}
	return l
}

// smallPairs runs a test for many pairs that the model knows.
func smallPairs(t *testing.T, test func(c chance, p pair)) {
	c := chance{rand.New(rand.NewSource(1))}
	for range 400 {
		step := []int64{1, 1, 7, 60, 240}[c.Intn(5)]
		p := newPair(c.small(step), step)
		if e := cross.CheckPair(p.l); e != api.OK {
			t.Fatalf("%s: CheckPair is %d", p.text(), e)
		}
		test(c, p)
		if t.Failed() {
			return
		}
	}
}

// P6.2, P6.11 (somewhere)
func TestContactAsModel(t *testing.T) {
	several := 0
	smallPairs(t, func(c chance, p pair) {
		for range 50 {
			truth, tilt := c.Intn(len(p.truths)), c.Intn(len(p.tilts))
			for tries := 0; tries < 100 && len(namesOf(p.touch[truth][tilt])) < 2 && c.Intn(40) > 0; tries++ {
				tilt = c.Intn(len(p.tilts))
			}
			want := namesOf(p.touch[truth][tilt])
			if names, e := cross.Contact(p.l, p.truths[truth], p.tilts[tilt]); !slices.Equal(names, want) || len(want) == 0 || e != api.OK {
				t.Errorf("%s: Contact of %v at %v is %v, %d, not %v", p.text(), p.truths[truth], p.tilts[tilt], names, e, want)
			}
			if len(want) > 1 {
				several++
			}
		}
	})
	if several < 500 {
		t.Errorf("blades touch %d times at several stations: too few tell something", several)
	}
}

// P6.3
func TestTiltsAsModel(t *testing.T) {
	told := map[api.Errno]int{}
	smallPairs(t, func(c chance, p pair) {
		for range 20 {
			truth, station := c.Intn(len(p.truths)), c.Intn(len(p.l))
			want, wantE := p.span(func(tilt int) bool { return p.touch[truth][tilt][station] })
			if s, e := cross.Tilts(p.l, p.truths[truth], station); s != want || e != wantE {
				t.Errorf("%s: Tilts of %v at %d is %v, %d, not %v, %d", p.text(), p.truths[truth], station, s, e, want, wantE)
			}
			told[wantE]++
		}
	})
	if told[api.OK] < 2000 || told[api.ErrGape] < 500 {
		t.Errorf("too few truths tell something: %v", told)
	}
}

// P6.4, P6.5
func TestSpansAsModel(t *testing.T) {
	told := map[int]int{}
	smallPairs(t, func(c chance, p pair) {
		kinds, e := cross.Kinds(p.l)
		if len(kinds) != len(p.l) || e != api.OK {
			t.Fatalf("%s: Kinds is %v, %d", p.text(), kinds, e)
		}
		for station := range p.l {
			can, canE := p.span(func(tilt int) bool { return p.inSome(tilt, station) })
			if s, e := cross.Can(p.l, station); s != can || e != canE {
				t.Errorf("%s: Can of %d is %v, %d, not %v, %d", p.text(), station, s, e, can, canE)
			}
			sure, sureE := p.span(func(tilt int) bool { return p.inEach(tilt, station) })
			if s, e := cross.Sure(p.l, station); s != sure || e != sureE {
				t.Errorf("%s: Sure of %d is %v, %d, not %v, %d", p.text(), station, s, e, sure, sureE)
			}
			if kind := p.kind(station); kinds[station] != kind {
				t.Errorf("%s: Kinds is %v, but %d of %d", p.text(), kinds, kind, station)
			}
			if 0 < station && station < len(p.l)-1 {
				told[kinds[station]]++
			}
		}
	})
	if told[api.CrossNever] < 50 || told[api.CrossMay] < 50 || told[api.CrossAlways] < 50 {
		t.Errorf("too few stations tell something: %v", told)
	}
}

// P6.8
func TestGroundAsModel(t *testing.T) {
	smallPairs(t, func(c chance, p pair) {
		for station := range p.l {
			var least, most *big.Rat
			for i, truth := range p.truths {
				ground := groundOf(p.l, bigs(truth), station)
				if (ground.Sign() == 0) != p.meets(i, station) {
					t.Errorf("%s: in the truth %v, %v is ground at %d", p.text(), truth, ground, station)
				}
				if least == nil || ground.Cmp(least) < 0 {
					least = ground
				}
				if most == nil || ground.Cmp(most) > 0 {
					most = ground
				}
			}
			want := api.CrossSpan{Lo: leastTerms(least), Hi: leastTerms(most)}
			if s, e := cross.Ground(p.l, station); s != want || e != api.OK {
				t.Errorf("%s: Ground of %d is %v, %d, not %v", p.text(), station, s, e, want)
			}
		}
	})
}

// proved reports if Wedge and Heights do not prove whether some heights meet, and returns whether they do.
func proved(t *testing.T, l []api.CrossStation) bool {
	t.Helper()
	wedges := wedgesOf(l)
	w, e := cross.Wedge(l)
	heights, f := cross.Heights(l)
	if len(wedges) > 0 {
		if w != wedges[0] || e != api.OK || len(heights) > 0 || f != api.ErrGape {
			t.Errorf("%v: Wedge is %v, %d, not %v, and Heights %v, %d", l, w, e, wedges[0], heights, f)
		}
		return false
	}
	if w != [3]int{} || e != api.ErrNone || f != api.OK || len(heights) != len(l) {
		t.Errorf("%v: Wedge is %v, %d, and Heights %v, %d", l, w, e, heights, f)
		return true
	}
	for _, h := range heights {
		if h != leastTerms(bigOf(h)) {
			t.Errorf("%v: Heights is %v: not in least terms", l, heights)
		}
	}
	if heightsError(l, heights) != api.OK || cross.CheckHeights(l, heights) != api.OK || !areGreatest(l, heights) {
		t.Errorf("%v: Heights is %v", l, heights)
	}
	return true
}

// P6.6, P6.7, P6.9
func TestHeightsAsModel(t *testing.T) {
	told := map[bool]int{}
	smallPairs(t, func(c chance, p pair) { told[proved(t, p.l)]++ })
	if told[true] < 100 || told[false] < 50 {
		t.Errorf("too few pairs tell something: %v", told)
	}
}

// near returns heights beside those that meet, or beside what is allowed.
func (c chance) near(l []api.CrossStation) []api.Ratio {
	heights, _ := cross.Heights(l)
	var list []api.Ratio
	for i, s := range l {
		den := c.from(1, 12)
		h := rat(c.from(s.High.Lo*den, s.High.Hi*den), den)
		if heights != nil && c.Intn(8) > 0 {
			times := c.from(1, 1000/heights[i].Den)
			h = rat(heights[i].Num*times, heights[i].Den*times)
		}
		if c.Intn(12) == 0 {
			h.Num += c.from(-1, 1)
		}
		list = append(list, h)
	}
	return list
}

// P6.7 (CheckHeights)
func TestCheckHeightsAsModel(t *testing.T) {
	told := map[api.Errno]int{}
	smallPairs(t, func(c chance, p pair) {
		for range 20 {
			heights := c.near(p.l)
			want := heightsError(p.l, heights)
			if e := cross.CheckHeights(p.l, heights); e != want {
				t.Errorf("%s: CheckHeights of %v is %d, not %d", p.text(), heights, e, want)
			}
			told[want]++
		}
		for i, truth := range p.truths { // a truth meets just if it is heights that meet
			var heights []api.Ratio
			meets := true
			for station, n := range truth {
				heights = append(heights, rat(n, 1))
				meets = meets && p.meets(i, station)
			}
			if e := cross.CheckHeights(p.l, heights); (e == api.OK) != meets || e != api.OK && e != api.ErrGape {
				t.Errorf("%s: CheckHeights of the truth %v is %d", p.text(), truth, e)
			}
		}
	})
	if told[api.OK] < 500 || told[api.ErrRange] < 300 || told[api.ErrGape] < 500 {
		t.Errorf("too few heights tell something: %v", told)
	}
}
