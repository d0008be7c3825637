package keen_test

import (
	"math/rand"
	"slices"
	"testing"

	"bolster/api"
	"bolster/keen"
)

// manyBooks runs a test for so many books of all sizes, and tells it whether the tests agree.
func manyBooks(t *testing.T, n int, test func(c chance, b book, agree bool)) {
	c := chance{rand.New(rand.NewSource(2))}
	agreed := 0
	for range n {
		b := c.book(api.MaxKeenEdges, []int{5, 12, api.MaxKeenTests}[c.Intn(3)], 1)
		_, e := keen.Least(b.KeenBook)
		if e == api.OK {
			agreed++
		}
		if e != api.OK && e != api.ErrClash {
			t.Errorf("%s: Least is %d", b.text(), e)
		}
		test(c, b, e == api.OK)
		if t.Failed() {
			return
		}
	}
	if agreed < n/5 || agreed > n*9/10 {
		t.Errorf("the tests of %d of %d books agree: too few tell something", agreed, n)
	}
}

// span returns the Span of two edges of a book whose tests agree.
func (b book) span(t *testing.T, one, two int) api.Range {
	t.Helper()
	r, e := keen.Span(b.KeenBook, one, two)
	if e != api.OK || r.Lo > r.Hi {
		t.Errorf("%s: Span of %d %d is %v, %d", b.text(), one, two, r, e)
	}
	return r
}

// pair returns two different edges of a book that has two.
func (c chance) pair(b book) (int, int) {
	x := c.Perm(b.Edges)
	return x[0], x[1]
}

// P5.10, P5.5 (the chain and the truth are what the model takes for them)
func TestProved(t *testing.T) {
	longest := 0
	manyBooks(t, 400, func(c chance, b book, agree bool) {
		if !agree || b.Edges == 1 {
			return
		}
		for range 10 {
			one, two := c.pair(b)
			most := b.span(t, one, two).Hi
			chain, e1 := keen.Chain(b.KeenBook, one, two)
			truth, e2 := keen.Reach(b.KeenBook, one, two)
			worth, ok := b.chainWorth(chain)
			if e1 != api.OK || !ok || worth != most || chain[0].From != two || chain[len(chain)-1].To != one {
				t.Errorf("%s: Chain of %d %d is %v, %d, worth %d, not %d", b.text(), one, two, chain, e1, worth, most)
			}
			longest = max(longest, len(chain))
			if e2 != api.OK || len(truth) != b.Edges || slices.Min(truth) < 0 || slices.Max(truth) > 1000 || !b.isTruth(truth) || truth[one]-truth[two] != most {
				t.Errorf("%s: Reach of %d %d is %v, %d, not with %d", b.text(), one, two, truth, e2, most)
			}
			some := c.chain(b, 1+c.Intn(6))
			from, to := some[0].From, some[len(some)-1].To
			worth, e := keen.CheckChain(b.KeenBook, some)
			if e != api.OK || from >= 0 && to >= 0 && truth[to]-truth[from] > worth {
				t.Errorf("%s: in the truth %v the end of %v is sharper by more than %d, %d", b.text(), truth, some, worth, e)
			}
		}
	})
	if longest < 6 {
		t.Errorf("a chain has at most %d links: too few tell something", longest)
	}
}

// P5.3 (all of them together are a truth), P5.6, P5.11
func TestEither(t *testing.T) {
	over := map[bool]int{}
	manyBooks(t, 1000, func(c chance, b book, agree bool) {
		circle, e := keen.Circle(b.KeenBook)
		if !agree {
			if e != api.OK || !b.isCircle(circle) {
				t.Errorf("%s: Circle is %v, %d", b.text(), circle, e)
			}
			over[slices.ContainsFunc(circle, func(x api.KeenLink) bool { return x.From == -1 })]++
			return
		}
		least, _ := keen.Least(b.KeenBook)
		if e != api.ErrNone || len(circle) != 0 || len(least) != b.Edges || slices.Min(least) < 0 || slices.Max(least) > 1000 || !b.isTruth(least) {
			t.Errorf("%s: Circle is %v, %d, and Least %v", b.text(), circle, e, least)
		}
		for edge, x := range least {
			if r, e := keen.Sharp(b.KeenBook, edge); r.Lo != x || r.Hi < x || r.Hi > 1000 || e != api.OK {
				t.Errorf("%s: Sharp of %d is %v, %d, but Least %v", b.text(), edge, r, e, least)
			}
		}
	})
	if over[true] < 10 || over[false] < 50 {
		t.Errorf("%d circles lead over none, %d do not: too few tell something", over[true], over[false])
	}
}

// P5.12
func TestOverThird(t *testing.T) {
	just := 0
	manyBooks(t, 400, func(c chance, b book, agree bool) {
		if !agree || b.Edges < 3 {
			return
		}
		for range 20 {
			x := c.Perm(b.Edges)
			whole, first, second := b.span(t, x[0], x[1]).Hi, b.span(t, x[0], x[2]).Hi, b.span(t, x[2], x[1]).Hi
			if whole > first+second {
				t.Errorf("%s: the difference of %d %d is up to %d, over %d up to %d and %d", b.text(), x[0], x[1], whole, x[2], first, second)
			}
			if whole == first+second {
				just++
			}
		}
	})
	if just < 200 {
		t.Errorf("%d differences are just those over a third one: too few tell something", just)
	}
}

// contains reports whether a range contains another one.
func contains(r, other api.Range) bool { return r.Lo <= other.Lo && other.Hi <= r.Hi }

// isNarrower reports if a span is wider in a book where more is known, or an edge is no longer sure; and returns how many spans are narrower.
func isNarrower(t *testing.T, b, more book) int {
	t.Helper()
	narrower := 0
	for one := range b.Edges {
		for two := range b.Edges {
			if one == two {
				continue
			}
			before, after := b.span(t, one, two), more.span(t, one, two)
			if !contains(before, after) {
				t.Errorf("%s: Span of %d %d is %v, and %v for %s", b.text(), one, two, before, after, more.text())
			}
			if before != after {
				narrower++
			}
		}
	}
	sure, _ := keen.Sure(b.KeenBook)
	still, _ := keen.Sure(more.KeenBook)
	for _, edge := range sure {
		if !slices.Contains(still, edge) {
			t.Errorf("%s: Sure is %v, and %v for %s", b.text(), sure, still, more.text())
		}
	}
	return narrower
}

// P5.13
func TestNarrower(t *testing.T) {
	told := map[int]int{}
	manyBooks(t, 150, func(c chance, b book, agree bool) {
		if !agree || b.Edges == 1 || len(b.Tests) == api.MaxKeenTests {
			return
		}
		more := c.tests(b.Edges, 1, 600, 1)[0]
		if c.Intn(3) == 0 {
			known := b.span(t, more.One, more.Two)
			more.Diff = rg(max(-1000, known.Lo-c.from(0, 9)), min(1000, known.Hi+c.from(0, 9)))
		}
		n, e := keen.Tells(b.KeenBook, more)
		told[n]++
		_, clash := keen.Least(b.with(more).KeenBook)
		if e != api.OK || (clash == api.OK) != (n != api.KeenWrong) {
			t.Errorf("%s: Tells of %v is %d, %d, but Least with it %d", b.text(), more, n, e, clash)
		}
		if n != api.KeenWrong {
			if narrower := isNarrower(t, b, b.with(more)); (narrower > 0) != (n == api.KeenMore) {
				t.Errorf("%s: Tells of %v is %d, but %d spans are narrower", b.text(), more, n, narrower)
			}
		}
		if len(b.Tests) == 0 {
			return
		}
		narrow := book{bookOf(b.Edges, slices.Clone(b.Tests)...)}
		diff := &narrow.Tests[c.Intn(len(b.Tests))].Diff
		diff.Lo = c.from(diff.Lo, diff.Hi)
		diff.Hi = c.from(diff.Lo, diff.Hi)
		if _, e := keen.Least(narrow.KeenBook); e == api.OK {
			isNarrower(t, b, narrow)
		}
	})
	if told[api.KeenNothing] < 20 || told[api.KeenMore] < 20 || told[api.KeenWrong] < 10 {
		t.Errorf("too few tests tell something: %v", told)
	}
}

// turned returns a book with each Diff turned round.
func (b book) turned() book {
	var tests []api.KeenTest
	for _, x := range b.Tests {
		tests = append(tests, test(x.One, x.Two, -x.Diff.Hi, -x.Diff.Lo))
	}
	return book{bookOf(b.Edges, tests...)}
}

// exchanged returns a book with One and Two of each test exchanged.
func (b book) exchanged() book {
	var tests []api.KeenTest
	for _, x := range b.Tests {
		tests = append(tests, test(x.Two, x.One, x.Diff.Lo, x.Diff.Hi))
	}
	return book{bookOf(b.Edges, tests...)}
}

// P5.14
func TestTurned(t *testing.T) {
	manyBooks(t, 200, func(c chance, b book, agree bool) {
		back := b.turned()
		same := back.exchanged()
		for _, other := range []book{back, same} {
			if _, e := keen.Least(other.KeenBook); (e == api.OK) != agree {
				t.Errorf("%s: Least of %s is %d", b.text(), other.text(), e)
			}
		}
		if !agree {
			return
		}
		for one := range b.Edges {
			r, _ := keen.Sharp(b.KeenBook, one)
			s, _ := keen.Sharp(back.KeenBook, one)
			u, _ := keen.Sharp(same.KeenBook, one)
			if s != rg(1000-r.Hi, 1000-r.Lo) || u != r {
				t.Errorf("%s: Sharp of %d is %v, turned round %v, exchanged as well %v", b.text(), one, r, s, u)
			}
			for two := range b.Edges {
				if one == two {
					continue
				}
				r, s, u := b.span(t, one, two), back.span(t, one, two), same.span(t, one, two)
				if s != rg(-r.Hi, -r.Lo) || u != r {
					t.Errorf("%s: Span of %d %d is %v, turned round %v, exchanged as well %v", b.text(), one, two, r, s, u)
				}
			}
		}
	})
}

// crowned returns a book with tests more by which no edge is sharper than one that can be the sharpest, and one of the others is as sharp.
func (c chance) crowned(b book, may []int) book {
	top := may[c.Intn(len(may))]
	others := slices.DeleteFunc(c.Perm(b.Edges), func(edge int) bool { return edge == top })
	for i, edge := range others {
		if i == 0 {
			b = b.with(test(top, edge, 0, 0))
		} else {
			b = b.with(test(edge, top, -1000, 0))
		}
	}
	return b
}

// P5.15
func TestSharpestOfMany(t *testing.T) {
	twins := 0
	look := func(b book) []int {
		may, e1 := keen.May(b.KeenBook)
		sure, e2 := keen.Sure(b.KeenBook)
		if len(may) == 0 || e1 != api.OK || e2 != api.OK || !slices.IsSorted(may) || !slices.IsSorted(sure) {
			t.Errorf("%s: May is %v, %d, and Sure %v, %d", b.text(), may, e1, sure, e2)
		}
		for i, one := range sure {
			if !slices.Contains(may, one) {
				t.Errorf("%s: May is %v, and Sure %v", b.text(), may, sure)
			}
			for _, other := range sure[:i] {
				twins++
				if r := b.span(t, one, other); r != rg(0, 0) {
					t.Errorf("%s: Sure is %v, but Span of %d %d is %v", b.text(), sure, one, other, r)
				}
			}
		}
		return may
	}
	manyBooks(t, 600, func(c chance, b book, agree bool) {
		if !agree {
			return
		}
		more := c.crowned(b, look(b))
		if _, e := keen.Least(more.KeenBook); e == api.OK {
			look(more)
		}
	})
	if twins < 50 {
		t.Errorf("%d pairs of edges are sure: too few tell something", twins)
	}
}
