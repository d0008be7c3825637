package keen_test

import (
	"fmt"
	"math"
	"reflect"
	"slices"
	"testing"

	"bolster/api"
	"bolster/keen"
)

func rg(lo, hi int64) api.Range { return api.Range{Lo: lo, Hi: hi} }

func of(x ...int) []int { return x }

func list(x ...int64) []int64 { return x }

// test returns a test.
func test(one, two int, lo, hi int64) api.KeenTest {
	return api.KeenTest{One: one, Two: two, Diff: rg(lo, hi)}
}

// bookOf returns a book.
func bookOf(edges int, tests ...api.KeenTest) api.KeenBook {
	return api.KeenBook{Edges: edges, Tests: tests}
}

// links returns links: three numbers for each of them, From, To and Test.
func links(x ...int) []api.KeenLink {
	var list []api.KeenLink
	for i := 0; i < len(x); i += 3 {
		list = append(list, api.KeenLink{From: x[i], To: x[i+1], Test: x[i+2]})
	}
	return list
}

// chapter returns the book B of the chapter's examples, in new memory.
func chapter() api.KeenBook {
	return bookOf(4, test(0, 1, 10, 30), test(1, 2, -5, 5), test(0, 2, 20, 60), test(3, 0, -20, -10))
}

// clash returns the book of the chapter with a test more that contradicts another one.
func clash() api.KeenBook {
	b := chapter()
	b.Tests = append(b.Tests, test(2, 0, 5, 9))
	return b
}

// stairs returns a book with most edges, and most tests, each edge sharper than the next one by just so much; the tests that are left over say the same again.
func stairs(by int64) api.KeenBook {
	b := bookOf(api.MaxKeenEdges)
	for i := range api.MaxKeenTests {
		one := i % (api.MaxKeenEdges - 1)
		b.Tests = append(b.Tests, test(one, one+1, by, by))
	}
	return b
}

// bookCases change the book of the chapter, and tell what CheckBook says of it then.
var bookCases = []struct {
	name   string
	change func(b *api.KeenBook)
	want   api.Errno
}{
	{"as it is", func(b *api.KeenBook) {}, api.OK},
	{"one edge", func(b *api.KeenBook) { *b = bookOf(1) }, api.OK},
	{"one edge, empty tests", func(b *api.KeenBook) { *b = api.KeenBook{Edges: 1, Tests: []api.KeenTest{}} }, api.OK},
	{"most edges", func(b *api.KeenBook) { b.Edges = 16 }, api.OK},
	{"most tests", func(b *api.KeenBook) { *b = stairs(7) }, api.OK},
	{"tests that do not agree", func(b *api.KeenBook) { *b = clash() }, api.OK},
	{"the same test twice", func(b *api.KeenBook) { b.Tests[1] = b.Tests[0] }, api.OK},
	{"a Diff with one number", func(b *api.KeenBook) { b.Tests[0].Diff = rg(7, 7) }, api.OK},
	{"the widest Diff", func(b *api.KeenBook) { b.Tests[0].Diff = rg(-1000, 1000) }, api.OK},
	{"a Diff at the top", func(b *api.KeenBook) { b.Tests[0].Diff = rg(1000, 1000) }, api.OK},
	{"nothing", func(b *api.KeenBook) { *b = api.KeenBook{} }, api.ErrMany},
	{"no edges", func(b *api.KeenBook) { b.Edges = 0 }, api.ErrMany},
	{"edges below 0", func(b *api.KeenBook) { b.Edges = -1 }, api.ErrMany},
	{"edges far below 0", func(b *api.KeenBook) { b.Edges = math.MinInt }, api.ErrMany},
	{"too many edges", func(b *api.KeenBook) { b.Edges = 17 }, api.ErrMany},
	{"far too many edges", func(b *api.KeenBook) { b.Edges = math.MaxInt }, api.ErrMany},
	{"too many tests", func(b *api.KeenBook) { b.Tests = append(stairs(7).Tests[:39], b.Tests[:2]...) }, api.ErrMany},
	{"far too many tests", func(b *api.KeenBook) { b.Tests = make([]api.KeenTest, 70000) }, api.ErrMany},
	{"too many edges come before a test", func(b *api.KeenBook) { b.Edges, b.Tests[0] = 17, test(3, 3, 1, 0) }, api.ErrMany},
	{"an edge against itself", func(b *api.KeenBook) { b.Tests[3].Two = 3 }, api.ErrArg},
	{"One below 0", func(b *api.KeenBook) { b.Tests[3].One = -1 }, api.ErrArg},
	{"Two below 0", func(b *api.KeenBook) { b.Tests[3].Two = -1 }, api.ErrArg},
	{"One too great", func(b *api.KeenBook) { b.Tests[0].One = 4 }, api.ErrArg},
	{"Two too great", func(b *api.KeenBook) { b.Tests[0].Two = 4 }, api.ErrArg},
	{"One far off", func(b *api.KeenBook) { b.Tests[0].One = math.MaxInt }, api.ErrArg},
	{"Two far off", func(b *api.KeenBook) { b.Tests[0].Two = math.MinInt }, api.ErrArg},
	{"a test of one edge alone", func(b *api.KeenBook) { *b = bookOf(1, test(0, 0, 0, 0)) }, api.ErrArg},
	{"an edge comes before a Diff", func(b *api.KeenBook) { b.Tests[0].Diff, b.Tests[3].One = rg(1, 0), 0 }, api.ErrArg},
	{"a Diff turned round", func(b *api.KeenBook) { b.Tests[2].Diff = rg(1, 0) }, api.ErrRange},
	{"Lo too low", func(b *api.KeenBook) { b.Tests[2].Diff.Lo = -1001 }, api.ErrRange},
	{"Hi too high", func(b *api.KeenBook) { b.Tests[2].Diff.Hi = 1001 }, api.ErrRange},
	{"Lo too high", func(b *api.KeenBook) { b.Tests[2].Diff = rg(1001, 1001) }, api.ErrRange},
	{"Hi too low", func(b *api.KeenBook) { b.Tests[2].Diff = rg(-1001, -1001) }, api.ErrRange},
	{"Lo far off", func(b *api.KeenBook) { b.Tests[3].Diff.Lo = math.MinInt64 }, api.ErrRange},
	{"Hi far off", func(b *api.KeenBook) { b.Tests[3].Diff.Hi = math.MaxInt64 }, api.ErrRange},
}

// P5.1, and that all functions return the error of CheckBook before all others
func TestCheckBook(t *testing.T) {
	for _, x := range bookCases {
		b := chapter()
		x.change(&b)
		if e := keen.CheckBook(b); e != x.want {
			t.Errorf("%s: CheckBook is %d, not %d", x.name, e, x.want)
		}
		if x.want == api.OK {
			continue
		}
		for function, got := range errorsOf(b, nil, nil, -1, -1, test(-1, -1, 1, 0)) {
			if got != x.want {
				t.Errorf("%s: %s is %d, not %d", x.name, function, got, x.want)
			}
		}
	}
}

// errorsOf returns the error of each function but CheckBook, or -1 if another result is not zero with an error.
func errorsOf(b api.KeenBook, truth []int64, chain []api.KeenLink, one, two int, more api.KeenTest) map[string]api.Errno {
	all := map[string]api.Errno{"CheckTruth": keen.CheckTruth(b, truth)}
	add := func(function string, e api.Errno, zero bool) {
		if e != api.OK && !zero {
			e = -1
		}
		all[function] = e
	}
	sharp, e := keen.Least(b)
	add("Least", e, len(sharp) == 0)
	worth, e := keen.CheckChain(b, chain)
	add("CheckChain", e, worth == 0)
	found, e := keen.Circle(b)
	add("Circle", e, len(found) == 0)
	r, e := keen.Span(b, one, two)
	add("Span", e, r == rg(0, 0))
	found, e = keen.Chain(b, one, two)
	add("Chain", e, len(found) == 0)
	sharp, e = keen.Reach(b, one, two)
	add("Reach", e, len(sharp) == 0)
	r, e = keen.Sharp(b, one)
	add("Sharp", e, r == rg(0, 0))
	edges, e := keen.May(b)
	add("May", e, len(edges) == 0)
	edges, e = keen.Sure(b)
	add("Sure", e, len(edges) == 0)
	n, e := keen.Tells(b, more)
	add("Tells", e, n == 0)
	first, second, e := keen.Widest(b)
	add("Widest", e, first == 0 && second == 0)
	return all
}

// Each function with a valid book returns its own error, with nothing beside it; ErrClash comes after what is wrong with an argument.
func TestErrorsAlone(t *testing.T) {
	for _, x := range []struct {
		name     string
		b        api.KeenBook
		one, two int
		more     api.KeenTest
		want     map[string]api.Errno
	}{
		{"nothing is wrong but the chain", chapter(), 1, 2, test(3, 2, 0, 1), map[string]api.Errno{"CheckChain": api.ErrMany, "Circle": api.ErrNone}},
		{"the tests do not agree", clash(), 1, 2, test(3, 2, 0, 1), map[string]api.Errno{
			"CheckTruth": api.ErrRule, "Least": api.ErrClash, "CheckChain": api.ErrMany, "Span": api.ErrClash, "Chain": api.ErrClash, "Reach": api.ErrClash,
			"Sharp": api.ErrClash, "May": api.ErrClash, "Sure": api.ErrClash, "Tells": api.ErrClash, "Widest": api.ErrClash,
		}},
		{"nor are there such edges", clash(), 4, 4, test(4, 2, 1, 0), map[string]api.Errno{
			"CheckTruth": api.ErrRule, "Least": api.ErrClash, "CheckChain": api.ErrMany, "Span": api.ErrArg, "Chain": api.ErrArg, "Reach": api.ErrArg,
			"Sharp": api.ErrArg, "May": api.ErrClash, "Sure": api.ErrClash, "Tells": api.ErrArg, "Widest": api.ErrClash,
		}},
		{"nor is the Diff valid", clash(), 1, 1, test(3, 2, 1, 0), map[string]api.Errno{
			"CheckTruth": api.ErrRule, "Least": api.ErrClash, "CheckChain": api.ErrMany, "Span": api.ErrArg, "Chain": api.ErrArg, "Reach": api.ErrArg,
			"Sharp": api.ErrClash, "May": api.ErrClash, "Sure": api.ErrClash, "Tells": api.ErrRange, "Widest": api.ErrClash,
		}},
	} {
		for function, e := range errorsOf(x.b, list(20, 0, 0, 0), nil, x.one, x.two, x.more) {
			if e != x.want[function] {
				t.Errorf("%s: %s is %d, not %d", x.name, function, e, x.want[function])
			}
		}
	}
}

// P5.2
func TestCheckTruth(t *testing.T) {
	for _, x := range []struct {
		name  string
		b     api.KeenBook
		truth []int64
		want  api.Errno
	}{
		{"the least one", chapter(), list(20, 0, 0, 0), api.OK},
		{"a greater one", chapter(), list(1000, 975, 970, 985), api.OK},
		{"each Diff at an end", chapter(), list(520, 505, 500, 510), api.OK},
		{"one edge, least", bookOf(1), list(0), api.OK},
		{"one edge, most", bookOf(1), list(1000), api.OK},
		{"any two without tests", bookOf(2), list(0, 1000), api.OK},
		{"nothing", chapter(), nil, api.ErrEqual},
		{"too short", chapter(), list(20, 0, 0), api.ErrEqual},
		{"too long", chapter(), list(20, 0, 0, 0, 0), api.ErrEqual},
		{"far too long", chapter(), make([]int64, 70000), api.ErrEqual},
		{"too long comes before a number", chapter(), list(20, 0, 0, 0, -1), api.ErrEqual},
		{"below 0", chapter(), list(19, -1, -1, -1), api.ErrRange},
		{"too sharp", chapter(), list(1001, 981, 981, 991), api.ErrRange},
		{"far off", chapter(), list(20, 0, 0, math.MaxInt64), api.ErrRange},
		{"far below 0", chapter(), list(20, math.MinInt64, 0, 0), api.ErrRange},
		{"a number comes before the rule", chapter(), list(0, 0, 0, -1), api.ErrRange},
		{"below Lo", chapter(), list(19, 0, 0, 0), api.ErrRule},
		{"above Hi", chapter(), list(531, 500, 500, 515), api.ErrRule},
		{"the last test alone", chapter(), list(520, 500, 500, 511), api.ErrRule},
		{"the other way round", chapter(), list(480, 500, 500, 490), api.ErrRule},
		{"tests that do not agree", clash(), list(20, 0, 0, 0), api.ErrRule},
	} {
		if e := keen.CheckTruth(x.b, x.truth); e != x.want {
			t.Errorf("%s: CheckTruth is %d, not %d", x.name, e, x.want)
		}
	}
}

// P5.3
func TestLeast(t *testing.T) {
	down := make([]int64, api.MaxKeenEdges)
	for i := range down {
		down[i] = int64(api.MaxKeenEdges-1-i) * 66
	}
	for _, x := range []struct {
		name string
		b    api.KeenBook
		want []int64
	}{
		{"of the chapter", chapter(), list(20, 0, 0, 0)},
		{"one edge", bookOf(1), list(0)},
		{"no tests", bookOf(3), list(0, 0, 0)},
		{"less sharp by a test", bookOf(2, test(0, 1, -70, -30)), list(0, 30)},
		{"fixed at both ends", bookOf(2, test(1, 0, 1000, 1000)), list(0, 1000)},
		{"stairs", stairs(66), down},
		{"over one that must be sharp itself", bookOf(3, test(1, 2, 5, 9), test(0, 1, -3, 3)), list(2, 5, 0)},
	} {
		least, e := keen.Least(x.b)
		if !slices.Equal(least, x.want) || e != api.OK {
			t.Errorf("%s: Least is %v, %d, not %v", x.name, least, e, x.want)
		}
		if e := keen.CheckTruth(x.b, least); e != api.OK {
			t.Errorf("%s: CheckTruth of Least %v is %d", x.name, least, e)
		}
	}
}

// P5.4 (CheckChain)
func TestCheckChain(t *testing.T) {
	round := slices.Repeat(links(0, 1, 0, 1, 0, 0), api.MaxKeenLinks/2)
	for _, x := range []struct {
		name  string
		chain []api.KeenLink
		want  int64
		e     api.Errno
	}{
		{"two links", links(2, 1, 1, 1, 0, 0), 35, api.OK},
		{"one link", links(2, 0, 2), 60, api.OK},
		{"the same test backwards", links(0, 1, 0), -10, api.OK},
		{"over none", links(0, -1, -1, -1, 1, -1), 1000, api.OK},
		{"to none", links(3, -1, -1), 0, api.OK},
		{"from none", links(-1, 3, -1), 1000, api.OK},
		{"from none to none", links(-1, 3, -1, 3, -1, -1), 1000, api.OK},
		{"a Lo above 0", links(0, 2, 2), -20, api.OK},
		{"a Lo below 0", links(1, 2, 1), 5, api.OK},
		{"a Hi below 0", links(0, 3, 3), -10, api.OK},
		{"a Diff below 0 the other way", links(3, 0, 3), 20, api.OK},
		{"round to where it begins", links(0, 1, 0, 1, 2, 1, 2, 0, 2), 55, api.OK},
		{"the same link again", links(1, 0, 0, 0, 1, 0, 1, 0, 0), 50, api.OK},
		{"most links", round, 400, api.OK},
		{"too many links", append(slices.Clone(round), links(0, 1, 0)...), 0, api.ErrMany},
		{"no links", nil, 0, api.ErrMany},
		{"an empty list", links(), 0, api.ErrMany},
		{"too many come before what is no link", make([]api.KeenLink, 41), 0, api.ErrMany},
		{"far too many", make([]api.KeenLink, 70000), 0, api.ErrMany},
		{"links that do not meet", links(2, 1, 1, 0, 1, 0), 0, api.ErrRule},
		{"links that meet the other way", links(1, 0, 0, 2, 1, 1), 0, api.ErrRule},
		{"links that do not meet at none", links(0, -1, -1, 1, 0, 0), 0, api.ErrRule},
		{"another test", links(2, 1, 0), 0, api.ErrRule},
		{"a test of one edge alone", links(0, 1, 2), 0, api.ErrRule},
		{"an edge to itself", links(0, 0, 0), 0, api.ErrRule},
		{"the zero link", make([]api.KeenLink, 1), 0, api.ErrRule},
		{"no test between edges", links(0, 1, -1), 0, api.ErrRule},
		{"no test from none to none", links(-1, -1, -1), 0, api.ErrRule},
		{"a test from none", links(-1, 0, 0), 0, api.ErrRule},
		{"a test to none", links(0, -1, 0), 0, api.ErrRule},
		{"from none to no edge", links(-1, 4, -1), 0, api.ErrRule},
		{"from no edge to none", links(4, -1, -1), 0, api.ErrRule},
		{"from below none", links(-2, -1, -1), 0, api.ErrRule},
		{"a test that is none", links(0, 1, 4), 0, api.ErrRule},
		{"a test below none", links(-1, 0, -2), 0, api.ErrRule},
		{"numbers far off", links(math.MaxInt, math.MinInt, math.MaxInt), 0, api.ErrRule},
		{"numbers far below 0", links(math.MinInt, math.MaxInt, math.MinInt), 0, api.ErrRule},
		{"what is no link at last", links(2, 1, 1, 1, 0, 0, 0, 3, 2), 0, api.ErrRule},
	} {
		if worth, e := keen.CheckChain(chapter(), x.chain); worth != x.want || e != x.e {
			t.Errorf("%s: CheckChain is %d, %d, not %d, %d", x.name, worth, e, x.want, x.e)
		}
	}
	if worth, e := keen.CheckChain(clash(), links(0, 2, 2, 2, 0, 4)); worth != -25 || e != api.OK {
		t.Errorf("CheckChain of a circle is %d, %d", worth, e)
	}
	high := slices.Repeat(links(-1, 0, -1, 0, -1, -1), api.MaxKeenLinks/2)
	if worth, e := keen.CheckChain(bookOf(1), high); worth != 20000 || e != api.OK {
		t.Errorf("CheckChain of the greatest worth is %d, %d", worth, e)
	}
}

// P5.4 (Circle)
func TestCircle(t *testing.T) {
	round := stairs(66)
	round.Tests[39] = test(15, 0, -989, -989)
	for _, x := range []struct {
		name string
		b    api.KeenBook
		e    api.Errno
	}{
		{"of the chapter", chapter(), api.ErrNone},
		{"one edge", bookOf(1), api.ErrNone},
		{"no tests", bookOf(16), api.ErrNone},
		{"stairs that just fit", stairs(66), api.ErrNone},
		{"a circle that is worth 0", bookOf(2, test(0, 1, 5, 9), test(1, 0, -5, 0)), api.ErrNone},
		{"two tests", clash(), api.OK},
		{"the same edges, far apart", bookOf(2, test(0, 1, 5, 9), test(0, 1, -7, 4)), api.OK},
		{"stairs that are too high, over none", stairs(67), api.OK},
		{"two steps over none", bookOf(3, test(0, 1, 501, 600), test(1, 2, 500, 600)), api.OK},
		{"two steps down over none", bookOf(3, test(0, 1, -600, -501), test(1, 2, -600, -500)), api.OK},
		{"round all edges", round, api.OK},
		{"behind edges that agree", bookOf(6, test(0, 1, 1, 2), test(1, 2, 1, 2), test(3, 4, 1, 2), test(4, 5, 1, 2), test(3, 5, 5, 9)), api.OK},
	} {
		circle, e := keen.Circle(x.b)
		if e != x.e {
			t.Errorf("%s: Circle is %v, %d, not %d", x.name, circle, e, x.e)
		}
		if _, e := keen.Least(x.b); (e == api.OK) != (x.e == api.ErrNone) {
			t.Errorf("%s: Least is %d", x.name, e)
		}
		if x.e != api.OK || e != api.OK {
			continue
		}
		if worth, e := keen.CheckChain(x.b, circle); worth >= 0 || e != api.OK || circle[0].From < 0 || circle[0].From != circle[len(circle)-1].To {
			t.Errorf("%s: the circle %v is worth %d, %d", x.name, circle, worth, e)
		}
	}
}

// noEdges are pairs that are not two different edges of the book of the chapter.
var noEdges = [][2]int{
	{0, 0}, {3, 3}, {-1, 0}, {0, -1}, {4, 0}, {0, 4}, {-1, 4}, {-1, -1}, {4, 4},
	{math.MaxInt, 0}, {0, math.MaxInt}, {math.MinInt, 1}, {1, math.MinInt}, {math.MaxInt, math.MaxInt},
}

// P5.5
func TestSpan(t *testing.T) {
	for _, x := range []struct {
		name     string
		b        api.KeenBook
		one, two int
		want     api.Range
	}{
		{"of the chapter: 0 1", chapter(), 0, 1, rg(15, 30)},
		{"of the chapter: 0 2", chapter(), 0, 2, rg(20, 35)},
		{"of the chapter: 3 2", chapter(), 3, 2, rg(0, 25)},
		{"of the chapter: 1 3", chapter(), 1, 3, rg(-20, 5)},
		{"of the chapter: 1 0", chapter(), 1, 0, rg(-30, -15)},
		{"no tests", bookOf(2), 0, 1, rg(-1000, 1000)},
		{"an edge without tests", bookOf(3, test(0, 1, 300, 400)), 0, 2, rg(-700, 1000)},
		{"over none", bookOf(3, test(0, 1, 300, 400)), 2, 1, rg(-700, 1000)},
		{"over none on both sides", bookOf(4, test(0, 1, 300, 400), test(2, 3, 200, 250)), 0, 3, rg(-500, 1000)},
		{"steps up to the top", stairs(66), 0, 15, rg(990, 990)},
		{"a wide Diff tells nothing", bookOf(2, test(0, 1, -1000, 1000)), 1, 0, rg(-1000, 1000)},
		{"two tests of the same edges", bookOf(2, test(0, 1, -5, 7), test(1, 0, -3, 9)), 0, 1, rg(-5, 3)},
	} {
		if r, e := keen.Span(x.b, x.one, x.two); r != x.want || e != api.OK {
			t.Errorf("%s: Span is %v, %d, not %v", x.name, r, e, x.want)
		}
		proved(t, x.name, x.b, x.one, x.two, x.want.Hi)
		proved(t, x.name, x.b, x.two, x.one, -x.want.Lo)
	}
	for _, x := range noEdges {
		for function, e := range errorsOf(chapter(), nil, nil, x[0], x[1], test(0, 1, 0, 0)) {
			if (function == "Span" || function == "Chain" || function == "Reach") && e != api.ErrArg {
				t.Errorf("%s of %v is %d", function, x, e)
			}
		}
	}
}

// proved reports if Chain or Reach does not prove the greatest difference of two edges.
func proved(t *testing.T, name string, b api.KeenBook, one, two int, want int64) {
	t.Helper()
	chain, e := keen.Chain(b, one, two)
	if e != api.OK || len(chain) == 0 || chain[0].From != two || chain[len(chain)-1].To != one {
		t.Errorf("%s: Chain of %d %d is %v, %d", name, one, two, chain, e)
	}
	if worth, e := keen.CheckChain(b, chain); worth != want || e != api.OK {
		t.Errorf("%s: Chain of %d %d is %v, worth %d, %d, not %d", name, one, two, chain, worth, e, want)
	}
	truth, e := keen.Reach(b, one, two)
	if e != api.OK || keen.CheckTruth(b, truth) != api.OK || truth[one]-truth[two] != want {
		t.Errorf("%s: Reach of %d %d is %v, %d; the greatest difference is %d", name, one, two, truth, e, want)
	}
}

// P5.6
func TestSharp(t *testing.T) {
	for _, x := range []struct {
		name string
		b    api.KeenBook
		edge int
		want api.Range
		e    api.Errno
	}{
		{"of the chapter: 0", chapter(), 0, rg(20, 1000), api.OK},
		{"of the chapter: 1", chapter(), 1, rg(0, 985), api.OK},
		{"of the chapter: 2", chapter(), 2, rg(0, 980), api.OK},
		{"of the chapter: 3", chapter(), 3, rg(0, 990), api.OK},
		{"one edge", bookOf(1), 0, rg(0, 1000), api.OK},
		{"an edge without tests", bookOf(3, test(0, 1, 300, 400)), 2, rg(0, 1000), api.OK},
		{"at the top", bookOf(2, test(0, 1, 1000, 1000)), 0, rg(1000, 1000), api.OK},
		{"at the bottom", bookOf(2, test(0, 1, 1000, 1000)), 1, rg(0, 0), api.OK},
		{"amid stairs", stairs(66), 5, rg(660, 670), api.OK},
		{"below 0", chapter(), -1, rg(0, 0), api.ErrArg},
		{"too great", chapter(), 4, rg(0, 0), api.ErrArg},
		{"an edge of another book", bookOf(1), 1, rg(0, 0), api.ErrArg},
		{"far off", chapter(), math.MaxInt, rg(0, 0), api.ErrArg},
		{"far below 0", chapter(), math.MinInt, rg(0, 0), api.ErrArg},
	} {
		if r, e := keen.Sharp(x.b, x.edge); r != x.want || e != x.e {
			t.Errorf("%s: Sharp is %v, %d, not %v, %d", x.name, r, e, x.want, x.e)
		}
	}
}

// P5.7
func TestSharpest(t *testing.T) {
	all := of(0, 1, 2, 3, 4, 5, 6, 7, 8, 9, 10, 11, 12, 13, 14, 15)
	for _, x := range []struct {
		name      string
		b         api.KeenBook
		may, sure []int
	}{
		{"of the chapter", chapter(), of(0), of(0)},
		{"one edge", bookOf(1), of(0), of(0)},
		{"no tests", bookOf(3), of(0, 1, 2), nil},
		{"as sharp as each other", bookOf(3, test(0, 1, 0, 0), test(1, 2, 0, 0)), of(0, 1, 2), of(0, 1, 2)},
		{"two above a third one", bookOf(3, test(2, 1, 0, 0), test(1, 0, 1, 9)), of(1, 2), of(1, 2)},
		{"at least as sharp", bookOf(2, test(1, 0, 0, 9)), of(0, 1), of(1)},
		{"sharper", bookOf(2, test(1, 0, 1, 9)), of(1), of(1)},
		{"one or the other", bookOf(3, test(0, 1, -1, 1), test(1, 2, 5, 9)), of(0, 1), nil},
		{"one without tests", bookOf(3, test(0, 1, 5, 9)), of(0, 2), nil},
		{"only by another one", bookOf(3, test(0, 1, 5, 9), test(2, 0, -9, 9), test(2, 1, 10, 30)), of(2), of(2)},
		{"at the top", bookOf(3, test(0, 1, 1000, 1000)), of(0, 2), of(0)},
		{"stairs", stairs(66), of(0), of(0)},
		{"flat stairs", stairs(0), all, all},
	} {
		may, e := keen.May(x.b)
		if !slices.Equal(may, x.may) || e != api.OK {
			t.Errorf("%s: May is %v, %d, not %v", x.name, may, e, x.may)
		}
		sure, e := keen.Sure(x.b)
		if !slices.Equal(sure, x.sure) || e != api.OK {
			t.Errorf("%s: Sure is %v, %d, not %v", x.name, sure, e, x.sure)
		}
	}
}

// P5.8
func TestTells(t *testing.T) {
	full := stairs(7) // no test can be added, but it can be told what it would tell
	for _, x := range []struct {
		name string
		b    api.KeenBook
		more api.KeenTest
		want int
		e    api.Errno
	}{
		{"more", chapter(), test(1, 2, 0, 9), api.KeenMore, api.OK},
		{"nothing", chapter(), test(3, 2, 0, 25), api.KeenNothing, api.OK},
		{"nothing, wide", chapter(), test(3, 2, -1000, 1000), api.KeenNothing, api.OK},
		{"wrong", chapter(), test(3, 2, 26, 30), api.KeenWrong, api.OK},
		{"wrong below", chapter(), test(3, 2, -9, -1), api.KeenWrong, api.OK},
		{"just not wrong", chapter(), test(3, 2, 25, 30), api.KeenMore, api.OK},
		{"just not wrong below", chapter(), test(3, 2, -9, 0), api.KeenMore, api.OK},
		{"more above", chapter(), test(3, 2, 0, 24), api.KeenMore, api.OK},
		{"more below", chapter(), test(3, 2, 1, 25), api.KeenMore, api.OK},
		{"more on both sides", chapter(), test(3, 2, 1, 24), api.KeenMore, api.OK},
		{"nothing the other way", chapter(), test(2, 3, -25, 0), api.KeenNothing, api.OK},
		{"wrong the other way", chapter(), test(2, 3, 1, 9), api.KeenWrong, api.OK},
		{"a book that is full: nothing", full, test(0, 15, 105, 105), api.KeenNothing, api.OK},
		{"a book that is full: wrong", full, test(0, 15, 106, 106), api.KeenWrong, api.OK},
		{"no tests: nothing", bookOf(2), test(0, 1, -1000, 1000), api.KeenNothing, api.OK},
		{"no tests: more", bookOf(2), test(0, 1, -1000, 999), api.KeenMore, api.OK},
		{"Lo too low", chapter(), test(3, 2, -1001, 0), 0, api.ErrRange},
		{"Hi too high", chapter(), test(3, 2, 0, 1001), 0, api.ErrRange},
		{"turned round", chapter(), test(3, 2, 1, 0), 0, api.ErrRange},
		{"far off", chapter(), test(3, 2, math.MinInt64, math.MaxInt64), 0, api.ErrRange},
		{"one edge", bookOf(1), test(0, 0, 0, 0), 0, api.ErrArg},
		{"tests that do not agree", clash(), test(3, 2, 0, 25), 0, api.ErrClash},
		{"Diff comes before that", clash(), test(3, 2, 1, 0), 0, api.ErrRange},
		{"an edge comes before that", clash(), test(2, 2, 0, 25), 0, api.ErrArg},
	} {
		if n, e := keen.Tells(x.b, x.more); n != x.want || e != x.e {
			t.Errorf("%s: Tells is %d, %d, not %d, %d", x.name, n, e, x.want, x.e)
		}
	}
	for _, x := range noEdges {
		if n, e := keen.Tells(chapter(), test(x[0], x[1], 1, 0)); n != 0 || e != api.ErrArg {
			t.Errorf("Tells of %v is %d, %d", x, n, e)
		}
	}
}

// P5.9
func TestWidest(t *testing.T) {
	for _, x := range []struct {
		name     string
		b        api.KeenBook
		one, two int
		e        api.Errno
	}{
		{"of the chapter", chapter(), 1, 3, api.OK},
		{"no tests", bookOf(16), 0, 1, api.OK},
		{"two edges", bookOf(2, test(1, 0, 7, 7)), 0, 1, api.OK},
		{"the last two", bookOf(4, test(0, 1, 1, 2), test(0, 2, 1, 2), test(0, 3, 1, 3), test(1, 3, -9, 1)), 2, 3, api.OK},
		{"the first ones of several", bookOf(3, test(0, 1, 5, 8), test(1, 2, 0, 5), test(0, 2, 5, 10)), 0, 2, api.OK},
		{"all as wide as each other", stairs(66), 0, 1, api.OK},
		{"tests that do not agree", clash(), 0, 0, api.ErrClash},
		{"one edge", bookOf(1), 0, 0, api.ErrNone},
	} {
		if one, two, e := keen.Widest(x.b); one != x.one || two != x.two || e != x.e {
			t.Errorf("%s: Widest is %d, %d, %d, not %d, %d, %d", x.name, one, two, e, x.one, x.two, x.e)
		}
	}
}

// results returns what all functions that return lists return of a book, in new memory.
func results(b api.KeenBook) [][]string {
	var all [][]string
	add := func(list any) {
		v := reflect.ValueOf(list)
		var texts []string
		for i := range v.Len() {
			texts = append(texts, fmt.Sprint(v.Index(i)))
			v.Index(i).SetZero()
		}
		all = append(all, texts)
	}
	least, _ := keen.Least(b)
	add(least)
	circle, _ := keen.Circle(b)
	add(circle)
	chain, _ := keen.Chain(b, 1, 3)
	add(chain)
	truth, _ := keen.Reach(b, 1, 3)
	add(truth)
	may, _ := keen.May(b)
	add(may)
	sure, _ := keen.Sure(b)
	add(sure)
	return all
}

// R4, R9: no argument is changed, and what one call returns is not what another one returns, or was given.
func TestMemory(t *testing.T) {
	for _, fresh := range []func() api.KeenBook{chapter, clash} {
		b := fresh()
		truth, chain := list(20, 0, 0, 0), links(2, 1, 1, 1, 0, 0)
		first := results(b)
		errorsOf(b, truth, chain, 1, 3, test(1, 2, 0, 9))
		if again := results(b); !reflect.DeepEqual(again, first) {
			t.Errorf("another call returns %v, not %v", again, first)
		}
		if !reflect.DeepEqual(b, fresh()) || !slices.Equal(truth, list(20, 0, 0, 0)) || !slices.Equal(chain, links(2, 1, 1, 1, 0, 0)) {
			t.Errorf("an argument has changed: %v, %v, %v", b, truth, chain)
		}
	}
}
