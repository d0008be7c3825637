package keen_test

import (
	"fmt"
	"math/rand"
	"slices"
	"testing"

	"bolster/api"
	"bolster/keen"
)

// The model looks at each truth, as the chapter defines it. In most books each Diff has ends that are multiples of a step; there it looks at those truths alone that are multiples of it, too: the worth of each chain is such a multiple, and so is what chains allow.

// book is a book of which the model tells everything.
type book struct{ api.KeenBook }

// text tells what a book is, for a test that fails.
func (b book) text() string { return fmt.Sprint(b.Edges, " ", b.Tests) }

// with returns a book with a test more.
func (b book) with(more api.KeenTest) book {
	return book{bookOf(b.Edges, append(slices.Clone(b.Tests), more)...)}
}

// isTruth reports whether numbers from 0 to MaxKeenSharp are a truth.
func (b book) isTruth(truth []int64) bool {
	return !slices.ContainsFunc(b.Tests, func(x api.KeenTest) bool {
		difference := truth[x.One] - truth[x.Two]
		return difference < x.Diff.Lo || difference > x.Diff.Hi
	})
}

// truths returns all truths that are multiples of a step.
func (b book) truths(step int64) [][]int64 {
	var all [][]int64
	truth := make([]int64, b.Edges)
	var choose func(edge int)
	choose = func(edge int) {
		if edge < b.Edges {
			for truth[edge] = 0; truth[edge] <= api.MaxKeenSharp; truth[edge] += step {
				choose(edge + 1)
			}
		} else if b.isTruth(truth) {
			all = append(all, slices.Clone(truth))
		}
	}
	choose(0)
	return all
}

// worth returns the worth of a link, and whether it is one.
func (b book) worth(x api.KeenLink) (int64, bool) {
	switch {
	case x.Test == -1 && x.From == -1 && 0 <= x.To && x.To < b.Edges:
		return 1000, true
	case x.Test == -1 && x.To == -1 && 0 <= x.From && x.From < b.Edges:
		return 0, true
	case x.Test < 0 || x.Test >= len(b.Tests):
		return 0, false
	}
	test := b.Tests[x.Test]
	switch {
	case x.From == test.Two && x.To == test.One:
		return test.Diff.Hi, true
	case x.From == test.One && x.To == test.Two:
		return -test.Diff.Lo, true
	}
	return 0, false
}

// chainWorth returns the worth of a chain, and whether links are one.
func (b book) chainWorth(chain []api.KeenLink) (int64, bool) {
	if len(chain) < 1 || len(chain) > 40 {
		return 0, false
	}
	sum := int64(0)
	for i, x := range chain {
		worth, ok := b.worth(x)
		if !ok || i > 0 && chain[i-1].To != x.From {
			return 0, false
		}
		sum += worth
	}
	return sum, true
}

// spanOf returns the ends of what numbers are in truths.
func spanOf(truths [][]int64, number func(truth []int64) int64) api.Range {
	r := rg(number(truths[0]), number(truths[0]))
	for _, truth := range truths {
		n := number(truth)
		r = rg(min(r.Lo, n), max(r.Hi, n))
	}
	return r
}

// difference returns what tells the difference of two edges.
func difference(one, two int) func(truth []int64) int64 {
	return func(truth []int64) int64 { return truth[one] - truth[two] }
}

// chance makes books that are always the same ones.
type chance struct{ *rand.Rand }

func (c chance) from(lo, hi int64) int64 { return lo + c.Int63n(hi-lo+1) }

// diff returns a valid Diff around a difference, or now and then beside it; both ends are multiples of a step.
func (c chance) diff(around, wide, step int64) api.Range {
	if c.Intn(12) == 0 {
		around = c.from(-1000/step, 1000/step) * step
	}
	below, above := c.from(0, wide/step)*step, c.from(0, wide/step)*step
	return rg(max(-1000, around-below), min(1000, around+above))
}

// tests returns so many tests, most of which agree with a truth that is not known.
func (c chance) tests(edges, tests int, wide, step int64) []api.KeenTest {
	truth := make([]int64, edges)
	for edge := range truth {
		truth[edge] = c.from(0, 1000/step) * step
	}
	var list []api.KeenTest
	for range tests {
		pair := c.Perm(edges)[:2]
		list = append(list, api.KeenTest{One: pair[0], Two: pair[1], Diff: c.diff(truth[pair[0]]-truth[pair[1]], wide, step)})
	}
	return list
}

// book returns a valid book of up to so many edges and tests.
func (c chance) book(edges, tests int, step int64) book {
	n := 1 + c.Intn(edges)
	if n == 1 {
		return book{bookOf(1)}
	}
	wide := max(step, []int64{0, 50, 300, 1000}[c.Intn(4)])
	return book{bookOf(n, c.tests(n, c.Intn(tests+1), wide, step)...)}
}

// smallBooks runs a test for many books of which the model lists the truths that are multiples of a step.
func smallBooks(t *testing.T, test func(c chance, b book, step int64, truths [][]int64)) {
	c := chance{rand.New(rand.NewSource(1))}
	agree := 0
	for i := range 600 {
		edges, step := 4, []int64{100, 125, 200, 250}[c.Intn(4)]
		switch {
		case i%100 == 0: // each truth
			edges, step = 2, 1
		case i%5 == 0:
			edges, step = 5, 250
		}
		b := c.book(edges, 8, step)
		truths := b.truths(step)
		if len(truths) > 0 {
			agree++
		}
		test(c, b, step, truths)
		if t.Failed() {
			return
		}
	}
	if agree < 150 || agree > 550 {
		t.Errorf("the tests of %d of 600 books agree: too few tell something", agree)
	}
}

// wantClash returns the error of functions that return ErrClash if there is no truth.
func wantClash(truths [][]int64) api.Errno {
	if len(truths) == 0 {
		return api.ErrClash
	}
	return api.OK
}

// P5.2
func TestTruthsAsModel(t *testing.T) {
	smallBooks(t, func(c chance, b book, step int64, truths [][]int64) {
		for range 20 {
			truth := make([]int64, b.Edges)
			for edge := range truth {
				truth[edge] = c.from(0, 1000)
			}
			if len(truths) > 0 && c.Intn(2) == 0 {
				copy(truth, truths[c.Intn(len(truths))])
				at := c.Intn(b.Edges)
				truth[at] = max(0, min(1000, truth[at]+c.from(-1, 1)))
			}
			want := api.OK
			if !b.isTruth(truth) {
				want = api.ErrRule
			}
			if e := keen.CheckTruth(b.KeenBook, truth); e != want {
				t.Errorf("%s: CheckTruth of %v is %d, not %d", b.text(), truth, e, want)
			}
		}
	})
}

// P5.3, P5.6
func TestSharpAsModel(t *testing.T) {
	smallBooks(t, func(c chance, b book, step int64, truths [][]int64) {
		least, e := keen.Least(b.KeenBook)
		if e != wantClash(truths) || e == api.OK && !slices.ContainsFunc(truths, func(x []int64) bool { return slices.Equal(x, least) }) {
			t.Errorf("%s: Least is %v, %d", b.text(), least, e)
		}
		for edge := range b.Edges {
			var want api.Range
			if len(truths) > 0 {
				want = spanOf(truths, func(truth []int64) int64 { return truth[edge] })
			}
			if r, e := keen.Sharp(b.KeenBook, edge); r != want || e != wantClash(truths) {
				t.Errorf("%s: Sharp of %d is %v, %d, not %v", b.text(), edge, r, e, want)
			}
			if e == api.OK && least[edge] != want.Lo {
				t.Errorf("%s: Least is %v, but %d is at least %d", b.text(), least, edge, want.Lo)
			}
		}
	})
}

// P5.5, P5.9
func TestSpansAsModel(t *testing.T) {
	smallBooks(t, func(c chance, b book, step int64, truths [][]int64) {
		wantOne, wantTwo, wantE, width := 0, 0, wantClash(truths), int64(-1)
		if b.Edges == 1 {
			wantE = api.ErrNone
		}
		for one := range b.Edges {
			for two := range b.Edges {
				if one == two {
					continue
				}
				r, e := keen.Span(b.KeenBook, one, two)
				if len(truths) == 0 {
					if e != api.ErrClash {
						t.Errorf("%s: Span of %d %d is %v, %d", b.text(), one, two, r, e)
					}
					continue
				}
				want := spanOf(truths, difference(one, two))
				if r != want || e != api.OK {
					t.Errorf("%s: Span of %d %d is %v, %d, not %v", b.text(), one, two, r, e, want)
				}
				proved(t, b.text(), b.KeenBook, one, two, want.Hi)
				if one < two && want.Hi-want.Lo > width {
					wantOne, wantTwo, width = one, two, want.Hi-want.Lo
				}
			}
		}
		if one, two, e := keen.Widest(b.KeenBook); one != wantOne || two != wantTwo || e != wantE {
			t.Errorf("%s: Widest is %d, %d, %d, not %d, %d, %d", b.text(), one, two, e, wantOne, wantTwo, wantE)
		}
	})
}

// isSharpest reports whether no other edge is sharper than one in a truth.
func isSharpest(truth []int64, edge int) bool { return truth[edge] == slices.Max(truth) }

// P5.7
func TestSharpestAsModel(t *testing.T) {
	told := map[string]int{}
	smallBooks(t, func(c chance, b book, step int64, truths [][]int64) {
		var mays, sures []int
		for edge := range b.Edges {
			if slices.ContainsFunc(truths, func(truth []int64) bool { return isSharpest(truth, edge) }) {
				mays = append(mays, edge)
			}
			if len(truths) > 0 && !slices.ContainsFunc(truths, func(truth []int64) bool { return !isSharpest(truth, edge) }) {
				sures = append(sures, edge)
			}
		}
		may, e := keen.May(b.KeenBook)
		if !slices.Equal(may, mays) || e != wantClash(truths) {
			t.Errorf("%s: May is %v, %d, not %v", b.text(), may, e, mays)
		}
		sure, e := keen.Sure(b.KeenBook)
		if !slices.Equal(sure, sures) || e != wantClash(truths) {
			t.Errorf("%s: Sure is %v, %d, not %v", b.text(), sure, e, sures)
		}
		told[fmt.Sprint(len(mays) > 1, len(mays) < b.Edges, len(sures))]++
	})
	for _, kind := range []string{"true true 0", "true true 1", "true false 0", "true false 1", "false true 1"} {
		if told[kind] < 10 {
			t.Errorf("too few books tell something: %v", told)
		}
	}
}

// P5.8
func TestTellsAsModel(t *testing.T) {
	told := map[int]int{}
	smallBooks(t, func(c chance, b book, step int64, truths [][]int64) {
		for range 10 {
			if b.Edges == 1 {
				return
			}
			more := c.tests(b.Edges, 1, 500, step)[0]
			if len(truths) > 0 && c.Intn(3) == 0 {
				more.Diff = spanOf(truths, difference(more.One, more.Two))
			}
			left := 0
			for _, truth := range truths {
				if b.with(more).isTruth(truth) {
					left++
				}
			}
			want := api.KeenMore
			switch {
			case len(truths) == 0:
				want = 0
			case left == 0:
				want = api.KeenWrong
			case left == len(truths):
				want = api.KeenNothing
			}
			if n, e := keen.Tells(b.KeenBook, more); n != want || e != wantClash(truths) {
				t.Errorf("%s: Tells of %v is %d, %d, not %d", b.text(), more, n, e, want)
			}
			if len(truths) > 0 {
				told[want]++
			}
		}
	})
	if told[api.KeenNothing] < 300 || told[api.KeenMore] < 300 || told[api.KeenWrong] < 300 {
		t.Errorf("too few tests tell something: %v", told)
	}
}

// P5.4 (Circle)
func TestCircleAsModel(t *testing.T) {
	smallBooks(t, func(c chance, b book, step int64, truths [][]int64) {
		circle, e := keen.Circle(b.KeenBook)
		if (e == api.ErrNone) != (len(truths) > 0) || e == api.OK && !b.isCircle(circle) {
			t.Errorf("%s: Circle is %v, %d", b.text(), circle, e)
		}
	})
}

// isCircle reports whether links are a circle.
func (b book) isCircle(x []api.KeenLink) bool {
	worth, ok := b.chainWorth(x)
	return ok && worth < 0 && x[0].From != -1 && x[0].From == x[len(x)-1].To
}

// links returns all links, and some that are none.
func (b book) links() []api.KeenLink {
	var all []api.KeenLink
	for from := -2; from <= b.Edges; from++ {
		for to := -2; to <= b.Edges; to++ {
			for test := -2; test <= len(b.Tests); test++ {
				all = append(all, api.KeenLink{From: from, To: to, Test: test})
			}
		}
	}
	return all
}

// chain returns a chain of so many links.
func (c chance) chain(b book, n int) []api.KeenLink {
	all := slices.DeleteFunc(b.links(), func(x api.KeenLink) bool {
		_, ok := b.worth(x)
		return !ok
	})
	chain := []api.KeenLink{all[c.Intn(len(all))]}
	for len(chain) < n {
		x := all[c.Intn(len(all))]
		if x.From == chain[len(chain)-1].To {
			chain = append(chain, x)
		}
	}
	return chain
}

// P5.4 (CheckChain)
func TestChainsAsModel(t *testing.T) {
	smallBooks(t, func(c chance, b book, step int64, truths [][]int64) {
		for _, x := range b.links() {
			want, ok := b.worth(x)
			if worth, e := keen.CheckChain(b.KeenBook, []api.KeenLink{x}); worth != want || (e == api.OK) != ok || !ok && e != api.ErrRule {
				t.Errorf("%s: CheckChain of %v is %d, %d, not %d", b.text(), x, worth, e, want)
			}
		}
		for range 5 {
			chain := c.chain(b, 1+c.Intn(api.MaxKeenLinks))
			if c.Intn(2) == 0 {
				at := c.Intn(len(chain))
				chain[at] = c.chain(b, 1)[0]
			}
			want, ok := b.chainWorth(chain)
			if worth, e := keen.CheckChain(b.KeenBook, chain); worth != want || (e == api.OK) != ok || !ok && e != api.ErrRule {
				t.Errorf("%s: CheckChain of %v is %d, %d, not %d", b.text(), chain, worth, e, want)
			}
		}
	})
}
