package hone_test

import (
	"math"
	"reflect"
	"slices"
	"testing"

	"bolster/api"
	"bolster/hone"
)

func of(x ...int) []int { return x }

func edge(depth, burr int) api.HoneEdge { return api.HoneEdge{Depth: depth, Burr: burr} }

// boxOf returns a box: three numbers for each stone, Grit, Cut and Burr.
func boxOf(x ...int) []api.HoneStone {
	var l []api.HoneStone
	for i := 0; i < len(x); i += 3 {
		l = append(l, api.HoneStone{Grit: x[i], Cut: x[i+1], Burr: x[i+2]})
	}
	return l
}

// chapter returns the box of the chapter's examples, in new memory; start and aim are its edge and its goal.
func chapter() []api.HoneStone { return boxOf(20, 15, 2, 5, 4, 1, 0, 1, -3) }

var start, aim = edge(40, 0), edge(4, 0)

// slow returns a box with which each of the edges needs another number of strokes to the goal 0 and 0: a stroke takes off 1 of the depth and raises the greatest burr, or takes off 1 of the burr.
func slow() []api.HoneStone { return boxOf(0, 1, 6, 0, 0, -1) }

// dull returns a box that does nothing.
func dull() []api.HoneStone { return boxOf(0, 0, 0) }

// boxCases change the box of the chapter, and tell what CheckBox says of it then.
var boxCases = []struct {
	name   string
	change func(l []api.HoneStone) []api.HoneStone
	want   api.Errno
}{
	{"as it is", func(l []api.HoneStone) []api.HoneStone { return l }, api.OK},
	{"one stone", func(l []api.HoneStone) []api.HoneStone { return l[2:] }, api.OK},
	{"most stones", func(l []api.HoneStone) []api.HoneStone { return append(l, l...) }, api.OK},
	{"all 0", func(l []api.HoneStone) []api.HoneStone { l[0] = api.HoneStone{}; return l }, api.OK},
	{"all greatest", func(l []api.HoneStone) []api.HoneStone { l[0] = boxOf(100, 100, 6)[0]; return l }, api.OK},
	{"the least Burr", func(l []api.HoneStone) []api.HoneStone { l[2].Burr = -6; return l }, api.OK},
	{"nothing", func(l []api.HoneStone) []api.HoneStone { return nil }, api.ErrMany},
	{"an empty list", func(l []api.HoneStone) []api.HoneStone { return l[:0] }, api.ErrMany},
	{"too many stones", func(l []api.HoneStone) []api.HoneStone { return append(l, append(l, l[0])...) }, api.ErrMany},
	{"far too many stones", func(l []api.HoneStone) []api.HoneStone { return make([]api.HoneStone, 70000) }, api.ErrMany},
	{"too many come before one that is wrong", func(l []api.HoneStone) []api.HoneStone { l[0].Grit = -1; return append(l, append(l, l[0])...) }, api.ErrMany},
	{"Grit below 0", func(l []api.HoneStone) []api.HoneStone { l[0].Grit = -1; return l }, api.ErrRange},
	{"Grit too great", func(l []api.HoneStone) []api.HoneStone { l[1].Grit = 101; return l }, api.ErrRange},
	{"Grit far off", func(l []api.HoneStone) []api.HoneStone { l[1].Grit = math.MaxInt; return l }, api.ErrRange},
	{"Grit far below 0", func(l []api.HoneStone) []api.HoneStone { l[1].Grit = math.MinInt; return l }, api.ErrRange},
	{"Cut below 0", func(l []api.HoneStone) []api.HoneStone { l[2].Cut = -1; return l }, api.ErrRange},
	{"Cut too great", func(l []api.HoneStone) []api.HoneStone { l[2].Cut = 101; return l }, api.ErrRange},
	{"Cut far off", func(l []api.HoneStone) []api.HoneStone { l[2].Cut = math.MaxInt; return l }, api.ErrRange},
	{"Cut far below 0", func(l []api.HoneStone) []api.HoneStone { l[2].Cut = math.MinInt; return l }, api.ErrRange},
	{"Burr too low", func(l []api.HoneStone) []api.HoneStone { l[2].Burr = -7; return l }, api.ErrRange},
	{"Burr too great", func(l []api.HoneStone) []api.HoneStone { l[0].Burr = 7; return l }, api.ErrRange},
	{"Burr far off", func(l []api.HoneStone) []api.HoneStone { l[0].Burr = math.MaxInt; return l }, api.ErrRange},
	{"Burr far below 0", func(l []api.HoneStone) []api.HoneStone { l[0].Burr = math.MinInt; return l }, api.ErrRange},
}

// P7.1, and that all functions return the error of CheckBox before all others
func TestCheckBox(t *testing.T) {
	for _, x := range boxCases {
		l := x.change(chapter())
		if err := hone.CheckBox(l); err != x.want {
			t.Errorf("%s: CheckBox is %d, not %d", x.name, err, x.want)
		}
		if x.want == api.OK {
			continue
		}
		for function, got := range errorsOf(l, edge(-1, 0), edge(0, 7), of(-1), make([][]int, 801), -1) {
			if got != x.want {
				t.Errorf("%s: %s is %d, not %d", x.name, function, got, x.want)
			}
		}
	}
}

// errorsOf returns the error of each function but CheckBox, or -1 if another result is not zero with an error. The row of CheckNever is the first one of the rows.
func errorsOf(l []api.HoneStone, e, goal api.HoneEdge, strokes []int, rows [][]int, n int) map[string]api.Errno {
	all := map[string]api.Errno{}
	add := func(function string, err api.Errno, zero bool) {
		if err != api.OK && !zero {
			err = -1
		}
		all[function] = err
	}
	after, err := hone.After(l, e, strokes)
	add("After", err, after == api.HoneEdge{})
	best, err := hone.Best(l, e, goal)
	add("Best", err, len(best) == 0)
	add("CheckRows", hone.CheckRows(l, e, goal, rows), true)
	made, err := hone.Rows(l, e, goal)
	add("Rows", err, len(made) == 0)
	far, err := hone.Far(l, goal, n)
	add("Far", err, len(far) == 0)
	var row []int
	if len(rows) > 0 {
		row = rows[0]
	}
	add("CheckNever", hone.CheckNever(l, e, goal, row), true)
	last, err := hone.Last(l, goal)
	add("Last", err, len(last) == 0)
	spare, err := hone.Spare(l, e, goal)
	add("Spare", err, len(spare) == 0)
	ends, err := hone.Ends(l, e, goal)
	add("Ends", err, len(ends) == 0)
	return all
}

// noEdges are edges that are not as described.
var noEdges = []api.HoneEdge{
	edge(-1, 0), edge(101, 0), edge(0, -1), edge(0, 7), edge(-1, -1), edge(101, 7),
	edge(math.MaxInt, 0), edge(math.MinInt, 0), edge(0, math.MaxInt), edge(0, math.MinInt),
}

// All functions return ErrArg for an edge, or a goal, that is not as described, before their own errors.
func TestNoEdges(t *testing.T) {
	for _, wrong := range noEdges {
		for function, err := range errorsOf(chapter(), wrong, aim, of(-1), make([][]int, 801), 0) {
			want := api.ErrArg
			if function == "Far" || function == "Last" {
				want = api.OK
			}
			if err != want {
				t.Errorf("%s of the edge %v is %d, not %d", function, wrong, err, want)
			}
		}
		for function, err := range errorsOf(chapter(), start, wrong, of(0), make([][]int, 801), -1) {
			want := api.ErrArg
			if function == "After" {
				want = api.OK
			}
			if err != want {
				t.Errorf("%s of the goal %v is %d, not %d", function, wrong, err, want)
			}
		}
	}
}

// Each function with a valid box returns its own error, with nothing beside it.
func TestErrorsAlone(t *testing.T) {
	empty := of(-1, -1, -1, -1, -1, -1, -1)
	never := of(4, -1, -1, -1, -1, -1, -1)
	for _, x := range []struct {
		name    string
		l       []api.HoneStone
		e       api.HoneEdge
		strokes []int
		rows    [][]int
		n       int
		want    map[string]api.Errno
	}{
		{"nothing is wrong", chapter(), start, of(0, 0, 1), [][]int{never}, 800, map[string]api.Errno{"CheckNever": api.ErrSum}},
		{"all is wrong", boxOf(20, 15, 2, 5, 4, 1), start, of(0, 0, 0, 0), [][]int{empty}, 801, map[string]api.Errno{
			"After": api.ErrRule, "Best": api.ErrPlan, "CheckRows": api.ErrSum, "Rows": api.ErrPlan, "Far": api.ErrRange,
			"CheckNever": api.ErrSum, "Spare": api.ErrPlan, "Ends": api.ErrPlan,
		}},
		{"the edge cannot reach the goal, as a row proves", boxOf(20, 15, 2, 5, 4, 1), start, nil, [][]int{never}, 0, map[string]api.Errno{
			"Best": api.ErrPlan, "Rows": api.ErrPlan, "Spare": api.ErrPlan, "Ends": api.ErrPlan,
		}},
		{"no stones, no row", chapter(), start, of(0, 0, 0, 0, 3), [][]int{empty, nil}, -1, map[string]api.Errno{
			"After": api.ErrRange, "CheckRows": api.ErrRange, "Far": api.ErrRange, "CheckNever": api.ErrSum,
		}},
		{"too many", chapter(), start, slices.Repeat(of(-1), 801), make([][]int, 801), math.MaxInt, map[string]api.Errno{
			"After": api.ErrMany, "CheckRows": api.ErrMany, "Far": api.ErrRange, "CheckNever": api.ErrRange,
		}},
	} {
		for function, err := range errorsOf(x.l, x.e, aim, x.strokes, x.rows, x.n) {
			if err != x.want[function] {
				t.Errorf("%s: %s is %d, not %d", x.name, function, err, x.want[function])
			}
		}
	}
}

// P7.2
func TestAfter(t *testing.T) {
	for _, x := range []struct {
		name    string
		l       []api.HoneStone
		e       api.HoneEdge
		strokes []int
		want    api.HoneEdge
		err     api.Errno
	}{
		{"of the chapter: 0 0", chapter(), start, of(0, 0), edge(20, 4), api.OK},
		{"of the chapter: 0 0 1", chapter(), start, of(0, 0, 1), edge(16, 5), api.OK},
		{"of the chapter: 0 0 0 0", chapter(), start, of(0, 0, 0, 0), edge(0, 0), api.ErrRule},
		{"none", chapter(), start, nil, start, api.OK},
		{"an empty list", chapter(), edge(100, 6), of(), edge(100, 6), api.OK},
		{"the burr at its greatest", chapter(), start, of(0, 0, 0), edge(20, 6), api.OK},
		{"a burr of 0 at the greatest", dull(), edge(9, 6), of(0), edge(9, 6), api.OK},
		{"the burr would be one too great", chapter(), edge(30, 6), of(1), edge(0, 0), api.ErrRule},
		{"the last one cannot be made", chapter(), edge(30, 4), of(1, 1, 2, 1, 1, 1, 1), edge(0, 0), api.ErrRule},
		{"the burr is taken off", chapter(), edge(30, 4), of(2), edge(29, 1), api.OK},
		{"the burr is taken off just so", chapter(), edge(30, 3), of(2), edge(29, 0), api.OK},
		{"no burr below 0", chapter(), edge(30, 2), of(2), edge(29, 0), api.OK},
		{"all of the burr", boxOf(0, 0, -6), edge(30, 6), of(0), edge(30, 0), api.OK},
		{"the greatest burr at once", boxOf(0, 0, 6), edge(30, 0), of(0), edge(30, 6), api.OK},
		{"a coarse stone scratches", chapter(), edge(0, 0), of(0), edge(20, 2), api.OK},
		{"a coarse stone leaves its own", chapter(), edge(34, 0), of(0), edge(20, 2), api.OK},
		{"deep ones are left", chapter(), edge(36, 0), of(0), edge(21, 2), api.OK},
		{"no depth below 0", boxOf(0, 100, 0), edge(7, 0), of(0), edge(0, 0), api.OK},
		{"the roughest stone", boxOf(100, 0, 0), edge(7, 0), of(0), edge(100, 0), api.OK},
		{"most strokes", boxOf(0, 1, 0), edge(100, 0), make([]int, 800), edge(0, 0), api.OK},
		{"too many strokes", boxOf(0, 1, 0), edge(100, 0), make([]int, 801), edge(0, 0), api.ErrMany},
		{"far too many strokes", boxOf(0, 1, 0), edge(100, 0), make([]int, 70000), edge(0, 0), api.ErrMany},
		{"too many come before what is no stone", chapter(), start, slices.Repeat(of(3), 801), edge(0, 0), api.ErrMany},
		{"no stone", chapter(), start, of(0, 3), edge(0, 0), api.ErrRange},
		{"no stone below 0", chapter(), start, of(0, -1), edge(0, 0), api.ErrRange},
		{"no stone, far off", chapter(), start, of(math.MaxInt), edge(0, 0), api.ErrRange},
		{"no stone, far below 0", chapter(), start, of(math.MinInt), edge(0, 0), api.ErrRange},
		{"no stone comes before one that cannot be made", chapter(), start, of(0, 0, 0, 0, 3), edge(0, 0), api.ErrRange},
	} {
		if e, err := hone.After(x.l, x.e, x.strokes); e != x.want || err != x.err {
			t.Errorf("%s: After is %v, %d, not %v, %d", x.name, e, err, x.want, x.err)
		}
	}
}

// P7.3, P7.7, P7.8
func TestStrokes(t *testing.T) {
	for _, x := range []struct {
		name              string
		l                 []api.HoneStone
		e, goal           api.HoneEdge
		best, spare, ends []int
		err               api.Errno
	}{
		{"of the chapter", chapter(), start, aim, of(0, 0, 1, 1, 2, 1, 1, 2, 2), nil, of(2), api.OK},
		{"keen already", chapter(), edge(3, 0), aim, nil, of(0, 1, 2), nil, api.OK},
		{"just keen already", chapter(), aim, aim, nil, of(0, 1, 2), nil, api.OK},
		{"keen already, with one stone", dull(), edge(0, 0), edge(100, 6), nil, of(0), nil, api.OK},
		{"not keen, with one stone that does nothing", dull(), edge(5, 0), aim, nil, nil, nil, api.ErrPlan},
		{"the burr alone is too great", dull(), edge(4, 1), aim, nil, nil, nil, api.ErrPlan},
		{"one stroke with one stone", boxOf(0, 1, 0), edge(5, 0), aim, of(0), nil, of(0), api.OK},
		{"the same stone twice", boxOf(0, 1, 0, 0, 1, 0), edge(6, 0), aim, of(0, 0), of(0, 1), of(0, 1), api.OK},
		{"the second one is better", boxOf(0, 1, 0, 0, 2, 0), edge(6, 0), aim, of(1), of(0), of(1), api.OK},
		{"both are needed, in any order", boxOf(4, 2, 0, 0, 1, 0), edge(7, 0), aim, of(0, 0), of(1), of(0, 1), api.OK},
		{"the first one is needed, but not at the end", boxOf(8, 9, 0, 0, 4, 0), edge(20, 0), aim, of(0, 0, 1), nil, of(1), api.OK},
		{"it becomes coarser first", boxOf(50, 0, -6, 0, 100, 1), edge(4, 2), edge(4, 1), of(0, 1), nil, of(1), api.OK},
		{"the burr has to come off", boxOf(0, 0, -1, 0, 10, 6), edge(8, 6), edge(0, 6), of(0, 0, 0, 0, 0, 0, 1), nil, of(1), api.OK},
		{"a stone that is too coarse", boxOf(5, 100, 0), edge(50, 0), aim, nil, nil, nil, api.ErrPlan},
		{"a stone that is just fine enough", boxOf(4, 100, 0), edge(50, 0), aim, of(0), nil, of(0), api.OK},
		{"a burr that stays", boxOf(0, 100, 1), edge(50, 0), aim, nil, nil, nil, api.ErrPlan},
		{"a goal with a burr", boxOf(0, 100, 1), edge(50, 0), edge(4, 1), of(0), nil, of(0), api.OK},
		{"six stones", boxOf(0, 0, 0, 100, 100, 6, 0, 2, 1, 0, 2, 1, 3, 3, 1, 0, 0, -1), edge(6, 0), edge(0, 2), of(2, 2, 2, 5), of(0, 1, 2, 3, 4), of(2, 3, 5), api.OK},
		{"one stone at the end alone", boxOf(1, 9, 0, 0, 1, 3), edge(28, 0), edge(0, 3), of(0, 0, 0, 1), nil, of(1), api.OK},
	} {
		if got, err := hone.Best(x.l, x.e, x.goal); !slices.Equal(got, x.best) || err != x.err {
			t.Errorf("%s: Best is %v, %d, not %v, %d", x.name, got, err, x.best, x.err)
		}
		if got, err := hone.Spare(x.l, x.e, x.goal); !slices.Equal(got, x.spare) || err != x.err {
			t.Errorf("%s: Spare is %v, %d, not %v, %d", x.name, got, err, x.spare, x.err)
		}
		if got, err := hone.Ends(x.l, x.e, x.goal); !slices.Equal(got, x.ends) || err != x.err {
			t.Errorf("%s: Ends is %v, %d, not %v, %d", x.name, got, err, x.ends, x.err)
		}
		if got, err := hone.Rows(x.l, x.e, x.goal); len(got) != len(x.best) || err != x.err {
			t.Errorf("%s: Rows is %v, %d", x.name, got, err)
		}
	}
}

// P7.4 (Rows)
func TestRows(t *testing.T) {
	l := chapter()
	for _, x := range []struct {
		e    api.HoneEdge
		want [][]int
		err  api.Errno
	}{
		{edge(4, 0), nil, api.OK},
		{edge(0, 0), nil, api.OK},
		{edge(5, 3), [][]int{{4, -1, -1, -1, -1, -1, -1}}, api.OK},
		{edge(5, 4), [][]int{{4, -1, -1, -1, -1, -1, -1}, {5, 5, 5, 5, -1, -1, -1}}, api.OK},
		{edge(6, 6), [][]int{{4, -1, -1, -1, -1, -1, -1}, {5, 5, 5, 5, -1, -1, -1}}, api.OK},
	} {
		if rows, err := hone.Rows(l, x.e, aim); !equal(rows, x.want) || err != x.err {
			t.Errorf("Rows of %v is %v, %d, not %v, %d", x.e, rows, err, x.want, x.err)
		}
	}
}

// equal reports whether rows are the same.
func equal(a, b [][]int) bool { return slices.EqualFunc(a, b, slices.Equal) }

// P7.4 (CheckRows)
func TestCheckRows(t *testing.T) {
	zero, one, two := of(4, -1, -1, -1, -1, -1, -1), of(5, 5, 5, 5, -1, -1, -1), of(9, 9, 9, 6, 6, 6, 6)
	empty, full := slices.Repeat(of(-1), 7), slices.Repeat(of(100), 7)
	for _, x := range []struct {
		name string
		l    []api.HoneStone
		e    api.HoneEdge
		rows [][]int
		want api.Errno
	}{
		{"of the chapter: 0 and 1", chapter(), start, [][]int{zero, one}, api.OK},
		{"of the chapter: twice that of 0", chapter(), start, [][]int{zero, zero}, api.ErrSum},
		{"none", chapter(), start, nil, api.OK},
		{"none, of an edge that is keen", chapter(), aim, [][]int{}, api.OK},
		{"one, of an edge that is keen", chapter(), aim, [][]int{zero}, api.ErrSum},
		{"one, of an edge that is not", chapter(), edge(5, 0), [][]int{zero}, api.OK},
		{"one, of an edge whose burr is too great", chapter(), edge(0, 1), [][]int{zero}, api.OK},
		{"three", chapter(), start, [][]int{zero, one, two}, api.OK},
		{"too wide for the edge", chapter(), edge(9, 2), [][]int{zero, one, two}, api.ErrSum},
		{"the burr is just too great", chapter(), edge(9, 3), [][]int{zero, one, two}, api.OK},
		{"wider than they have to be", chapter(), start, [][]int{of(5, 3, 2, 1, 0, 0, 0), of(39, 39, 39, 39, 39, 39, 39)}, api.OK},
		{"the second one is less wide than the first one", dull(), start, [][]int{of(39, 39, 3, 3, 3, 3, 3), of(39, 39, 3, 3, 3, 3, 3)}, api.OK},
		{"the edge in the first one alone", boxOf(100, 0, 6), edge(9, 0), [][]int{of(9, -1, -1, -1, -1, -1, -1), of(4, -1, -1, -1, -1, -1, -1)}, api.ErrSum},
		{"a second one that no stroke leaves", boxOf(100, 0, 6), edge(9, 0), [][]int{of(8, -1, -1, -1, -1, -1, -1), empty}, api.OK},
		{"the first one without the goal", chapter(), start, [][]int{of(3, -1, -1, -1, -1, -1, -1)}, api.ErrSum},
		{"an empty first one", chapter(), start, [][]int{empty}, api.ErrSum},
		{"a full one", chapter(), start, [][]int{full}, api.ErrSum},
		{"most rows", dull(), start, slices.Repeat([][]int{zero}, 800), api.OK},
		{"most rows, the last one too narrow", dull(), start, append(slices.Repeat([][]int{zero}, 799), of(3, -1, -1, -1, -1, -1, -1)), api.ErrSum},
		{"too many rows", dull(), start, slices.Repeat([][]int{zero}, 801), api.ErrMany},
		{"too many come before what is no row", dull(), start, make([][]int, 801), api.ErrMany},
		{"no row", chapter(), start, [][]int{nil}, api.ErrRange},
		{"an empty list", chapter(), start, [][]int{zero, {}}, api.ErrRange},
		{"too short", chapter(), start, [][]int{zero, of(5, 5, 5, 5, -1, -1)}, api.ErrRange},
		{"too long", chapter(), start, [][]int{zero, of(5, 5, 5, 5, -1, -1, -1, -1)}, api.ErrRange},
		{"far too long", chapter(), start, [][]int{zero, make([]int, 70000)}, api.ErrRange},
		{"it increases", chapter(), start, [][]int{zero, of(5, 6, 5, 5, -1, -1, -1)}, api.ErrRange},
		{"it increases at the end", chapter(), start, [][]int{zero, of(5, 5, 5, 5, -1, -1, 0)}, api.ErrRange},
		{"a number below -1", chapter(), start, [][]int{zero, of(5, 5, 5, 5, -1, -1, -2)}, api.ErrRange},
		{"a number too great", chapter(), start, [][]int{zero, of(101, 5, 5, 5, -1, -1, -1)}, api.ErrRange},
		{"a number far off", chapter(), start, [][]int{zero, of(math.MaxInt, 5, 5, 5, -1, -1, -1)}, api.ErrRange},
		{"a number far below 0", chapter(), start, [][]int{zero, of(5, 5, 5, 5, -1, -1, math.MinInt)}, api.ErrRange},
		{"no row comes before a proof that is wrong", chapter(), start, [][]int{empty, of(1)}, api.ErrRange},
	} {
		if err := hone.CheckRows(x.l, x.e, aim, x.rows); err != x.want {
			t.Errorf("%s: CheckRows is %d, not %d", x.name, err, x.want)
		}
	}
}

// P7.5, P7.6 (Last)
func TestFar(t *testing.T) {
	burrs := boxOf(0, 0, -1)
	for _, x := range []struct {
		name string
		l    []api.HoneStone
		goal api.HoneEdge
		n    int
		want []int
		err  api.Errno
	}{
		{"of the chapter: 0", chapter(), aim, 0, of(4, -1, -1, -1, -1, -1, -1), api.OK},
		{"of the chapter: 1", chapter(), aim, 1, of(5, 5, 5, 5, -1, -1, -1), api.OK},
		{"of the chapter: 2", chapter(), aim, 2, of(9, 9, 9, 6, 6, 6, 6), api.OK},
		{"most strokes", chapter(), aim, 800, slices.Repeat(of(100), 7), api.OK},
		{"a goal with a burr", dull(), edge(7, 3), 0, of(7, 7, 7, 7, -1, -1, -1), api.OK},
		{"the least keen goal", dull(), edge(100, 6), 5, slices.Repeat(of(100), 7), api.OK},
		{"the keenest goal", dull(), edge(0, 0), 800, of(0, -1, -1, -1, -1, -1, -1), api.OK},
		{"burr by burr: 2", burrs, edge(7, 1), 2, of(7, 7, 7, 7, -1, -1, -1), api.OK},
		{"burr by burr: 5", burrs, edge(7, 1), 5, slices.Repeat(of(7), 7), api.OK},
		{"burr by burr: 6", burrs, edge(7, 1), 6, slices.Repeat(of(7), 7), api.OK},
		{"one less than the last one", slow(), edge(0, 0), 705, of(100, 100, 100, 100, 100, 100, 99), api.OK},
		{"the last one of all", slow(), edge(0, 0), 706, slices.Repeat(of(100), 7), api.OK},
		{"strokes below 0", chapter(), aim, -1, nil, api.ErrRange},
		{"too many strokes", chapter(), aim, 801, nil, api.ErrRange},
		{"strokes far off", chapter(), aim, math.MaxInt, nil, api.ErrRange},
		{"strokes far below 0", chapter(), aim, math.MinInt, nil, api.ErrRange},
	} {
		if row, err := hone.Far(x.l, x.goal, x.n); !slices.Equal(row, x.want) || err != x.err {
			t.Errorf("%s: Far is %v, %d, not %v, %d", x.name, row, err, x.want, x.err)
		}
	}
	for _, x := range []struct {
		l    []api.HoneStone
		want []int
	}{
		{boxOf(20, 15, 2, 5, 4, 1), of(4, -1, -1, -1, -1, -1, -1)},
		{chapter(), slices.Repeat(of(100), 7)},
		{boxOf(0, 1, 3), of(4, -1, -1, -1, -1, -1, -1)},
		{boxOf(9, 1, -3), of(4, -1, -1, -1, -1, -1, -1)},
		{boxOf(0, 0, -6), of(4, 4, 4, 4, 4, 4, 4)},
		{slow(), slices.Repeat(of(100), 7)},
	} {
		if row, err := hone.Last(x.l, aim); !slices.Equal(row, x.want) || err != api.OK {
			t.Errorf("Last of %v is %v, %d, not %v", x.l, row, err, x.want)
		}
	}
}

// P7.6 (CheckNever)
func TestCheckNever(t *testing.T) {
	two := boxOf(20, 15, 2, 5, 4, 1)
	last := of(4, -1, -1, -1, -1, -1, -1)
	for _, x := range []struct {
		name string
		l    []api.HoneStone
		e    api.HoneEdge
		row  []int
		want api.Errno
	}{
		{"the last one", two, start, last, api.OK},
		{"an edge that is just not in it", two, edge(5, 0), last, api.OK},
		{"an edge that is in it", two, edge(4, 0), last, api.ErrSum},
		{"an edge whose burr is too great", two, edge(0, 1), last, api.OK},
		{"a wider one", two, edge(50, 0), of(4, 3, 3, 3, 3, 3, 3), api.OK},
		{"a wider one into which a stroke leads", boxOf(5, 4, 1, 0, 1, 0), edge(50, 0), of(4, 3, 3, 3, 3, 3, 3), api.ErrSum},
		{"a full one", two, start, slices.Repeat(of(100), 7), api.ErrSum},
		{"without the goal", two, start, of(3, -1, -1, -1, -1, -1, -1), api.ErrSum},
		{"an empty one", two, start, slices.Repeat(of(-1), 7), api.ErrSum},
		{"a stroke leads into it", chapter(), start, last, api.ErrSum},
		{"the edge can reach the goal", chapter(), start, of(39, 39, 39, 39, 39, 39, 39), api.ErrSum},
		{"no row", two, start, nil, api.ErrRange},
		{"too short", two, start, of(4, -1, -1, -1, -1, -1), api.ErrRange},
		{"too long", two, start, of(4, -1, -1, -1, -1, -1, -1, -1), api.ErrRange},
		{"it increases", two, start, of(4, -1, -1, 0, -1, -1, -1), api.ErrRange},
		{"a number below -1", two, start, of(4, -1, -1, -1, -1, -1, -2), api.ErrRange},
		{"a number too great", two, start, of(101, -1, -1, -1, -1, -1, -1), api.ErrRange},
		{"a number far off", two, start, of(math.MaxInt, -1, -1, -1, -1, -1, math.MinInt), api.ErrRange},
	} {
		if err := hone.CheckNever(x.l, x.e, aim, x.row); err != x.want {
			t.Errorf("%s: CheckNever is %d, not %d", x.name, err, x.want)
		}
	}
}

// P7.3, P7.4, P7.6, P7.12: the edge that needs most strokes of all
func TestMostStrokes(t *testing.T) {
	l, e, goal := slow(), edge(100, 6), edge(0, 0)
	best, err := hone.Best(l, e, goal)
	want := slices.Repeat(of(1), 6)
	for range 100 {
		want = append(want, 0, 1, 1, 1, 1, 1, 1)
	}
	if !slices.Equal(best, want) || err != api.OK {
		t.Errorf("Best is %v, %d", best, err)
	}
	if after, err := hone.After(l, e, best); after != goal || err != api.OK {
		t.Errorf("After is %v, %d", after, err)
	}
	rows, err := hone.Rows(l, e, goal)
	if len(rows) != 706 || err != api.OK || hone.CheckRows(l, e, goal, rows) != api.OK {
		t.Errorf("Rows has %d rows, %d", len(rows), err)
	}
	last, err := hone.Last(l, goal)
	if !slices.Equal(last, slices.Repeat(of(100), 7)) || err != api.OK {
		t.Errorf("Last is %v, %d", last, err)
	}
	ends, err := hone.Ends(l, e, goal)
	if !slices.Equal(ends, of(1)) || err != api.OK {
		t.Errorf("Ends is %v, %d", ends, err)
	}
	spare, err := hone.Spare(l, e, goal)
	if len(spare) != 0 || err != api.OK {
		t.Errorf("Spare is %v, %d", spare, err)
	}
}

// R4, R9, R10
func TestMemory(t *testing.T) {
	l, strokes := chapter(), of(0, 0, 1)
	rows := [][]int{{4, -1, -1, -1, -1, -1, -1}, {5, 5, 5, 5, -1, -1, -1}}
	for range 2 {
		errorsOf(l, start, aim, strokes, rows, 2)
		best, _ := hone.Best(l, start, aim)
		made, _ := hone.Rows(l, edge(6, 6), aim)
		far, _ := hone.Far(l, aim, 2)
		last, _ := hone.Last(l, aim)
		spare, _ := hone.Spare(l, aim, aim)
		ends, _ := hone.Ends(l, start, aim)
		all := [][]int{best, far, last, spare, ends}
		want := [][]int{{0, 0, 1, 1, 2, 1, 1, 2, 2}, {9, 9, 9, 6, 6, 6, 6}, slices.Repeat(of(100), 7), {0, 1, 2}, {2}}
		if !equal(all, want) || !equal(made, rows) {
			t.Errorf("another call returns %v, %v", all, made)
		}
		for _, list := range append(all, made...) {
			for i := range list {
				list[i] = 77
			}
		}
		// What grows out of one list must not come into another one.
		if first := append(made[0], 7); len(first) != 8 || made[1][0] != 77 {
			t.Errorf("rows share memory: %v", made)
		}
	}
	if !reflect.DeepEqual(l, chapter()) || !slices.Equal(strokes, of(0, 0, 1)) || rows[0][0] != 4 || rows[1][3] != 5 {
		t.Errorf("an argument has changed: %v, %v, %v", l, strokes, rows)
	}
}
