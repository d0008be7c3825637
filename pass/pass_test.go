package pass_test

import (
	"math"
	"reflect"
	"slices"
	"testing"

	"bolster/api"
	"bolster/pass"
)

func rg(lo, hi int64) api.Range { return api.Range{Lo: lo, Hi: hi} }

func of(x ...int) []int { return x }

// name returns the name of a pass.
func name(row, index int) api.PassName { return api.PassName{Row: row, Index: index} }

// passes returns the passes of an edge: two numbers for each of them, Peak and Leaves.
func passes(x ...int64) []api.PassPass {
	var list []api.PassPass
	for i := 0; i < len(x); i += 2 {
		list = append(list, api.PassPass{Peak: x[i], Leaves: x[i+1]})
	}
	return list
}

// jobOf returns a job.
func jobOf(start int64, rows ...[]api.PassPass) api.PassJob {
	return api.PassJob{Start: start, Rows: rows}
}

// chapter returns the job J of the chapter's examples, in new memory.
func chapter() api.PassJob {
	return jobOf(20, passes(30, 10, 5, -20), passes(40, 15, 10, -5))
}

// greatest returns a job with most edges, and most passes of each, all with the same Peak and Leaves.
func greatest(start, peak, leaves int64) api.PassJob {
	j := jobOf(start)
	for range api.MaxPassRows {
		j.Rows = append(j.Rows, slices.Repeat(passes(peak, leaves), api.MaxPassLong))
	}
	return j
}

// jobCases change the job of the chapter, and tell what CheckJob says of it then.
var jobCases = []struct {
	name   string
	change func(j *api.PassJob)
	want   api.Errno
}{
	{"as it is", func(j *api.PassJob) {}, api.OK},
	{"one edge, one pass", func(j *api.PassJob) { j.Rows = [][]api.PassPass{passes(0, 0)} }, api.OK},
	{"most of all", func(j *api.PassJob) { *j = greatest(1000, 1000, 1000) }, api.OK},
	{"least of all", func(j *api.PassJob) { *j = greatest(-1000, 0, -1000) }, api.OK},
	{"Leaves as Peak", func(j *api.PassJob) { j.Rows[0] = passes(7, 7) }, api.OK},
	{"Peak greatest, Leaves least", func(j *api.PassJob) { j.Rows[0] = passes(1000, -1000) }, api.OK},
	{"nothing", func(j *api.PassJob) { *j = api.PassJob{} }, api.ErrMany},
	{"no edges", func(j *api.PassJob) { j.Rows = [][]api.PassPass{} }, api.ErrMany},
	{"too many edges", func(j *api.PassJob) { j.Rows = slices.Repeat(j.Rows[:1], 5) }, api.ErrMany},
	{"an edge without passes", func(j *api.PassJob) { j.Rows[1] = nil }, api.ErrMany},
	{"an edge with an empty list", func(j *api.PassJob) { j.Rows[0] = passes() }, api.ErrMany},
	{"too many passes", func(j *api.PassJob) { j.Rows[1] = slices.Repeat(passes(1, 1), 7) }, api.ErrMany},
	{"no edges comes before Start", func(j *api.PassJob) { j.Rows, j.Start = nil, 1001 }, api.ErrMany},
	{"no passes comes before Start", func(j *api.PassJob) { j.Rows[1], j.Start = nil, 1001 }, api.ErrMany},
	{"no passes comes before a pass", func(j *api.PassJob) { j.Rows[1], j.Rows[0] = nil, passes(-1, 0) }, api.ErrMany},
	{"Start too high", func(j *api.PassJob) { j.Start = 1001 }, api.ErrArg},
	{"Start too low", func(j *api.PassJob) { j.Start = -1001 }, api.ErrArg},
	{"Start far off", func(j *api.PassJob) { j.Start = math.MaxInt64 }, api.ErrArg},
	{"Start far below", func(j *api.PassJob) { j.Start = math.MinInt64 }, api.ErrArg},
	{"Start comes before a pass", func(j *api.PassJob) { j.Start, j.Rows[0] = 1001, passes(-1, 0) }, api.ErrArg},
	{"Peak below 0", func(j *api.PassJob) { j.Rows[0][0] = api.PassPass{Peak: -1, Leaves: -1} }, api.ErrRange},
	{"Peak far below 0", func(j *api.PassJob) { j.Rows[0][0].Peak = math.MinInt64 }, api.ErrRange},
	{"Peak too high", func(j *api.PassJob) { j.Rows[1][1].Peak = 1001 }, api.ErrRange},
	{"Peak far off", func(j *api.PassJob) { j.Rows[1][1].Peak = math.MaxInt64 }, api.ErrRange},
	{"Leaves above Peak", func(j *api.PassJob) { j.Rows[1][0].Leaves = 41 }, api.ErrRange},
	{"Leaves far above Peak", func(j *api.PassJob) { j.Rows[1][0].Leaves = math.MaxInt64 }, api.ErrRange},
	{"Leaves too low", func(j *api.PassJob) { j.Rows[0][1].Leaves = -1001 }, api.ErrRange},
	{"Leaves far too low", func(j *api.PassJob) { j.Rows[0][1].Leaves = math.MinInt64 }, api.ErrRange},
}

// P4.1, and that all functions return the error of CheckJob before all others
func TestCheckJob(t *testing.T) {
	for _, x := range jobCases {
		j := chapter()
		x.change(&j)
		if e := pass.CheckJob(j); e != x.want {
			t.Errorf("%s: CheckJob is %d, not %d", x.name, e, x.want)
		}
		if x.want == api.OK {
			continue
		}
		for function, got := range errorsOf(j, of(-1), of(-1), make([][]int, 5000), math.MinInt64, name(-1, -1)) {
			if got != x.want {
				t.Errorf("%s: %s is %d, not %d", x.name, function, got, x.want)
			}
		}
	}
}

// errorsOf returns the error of each function but CheckJob, or -1 if another result is not zero with an error.
func errorsOf(j api.PassJob, position, order []int, barrier [][]int, limit int64, one api.PassName) map[string]api.Errno {
	all := map[string]api.Errno{}
	add := func(function string, e api.Errno, zero bool) {
		if e != api.OK && !zero {
			e = -1
		}
		all[function] = e
	}
	heat, e := pass.Heat(j, position)
	add("Heat", e, heat == 0)
	heat, e = pass.CheckOrder(j, order)
	add("CheckOrder", e, heat == 0)
	at, e := pass.Blue(j, order, limit)
	add("Blue", e, at == 0)
	best, heat, e := pass.Best(j)
	add("Best", e, len(best) == 0 && heat == 0)
	heat, e = pass.CheckBarrier(j, barrier)
	add("CheckBarrier", e, heat == 0)
	found, e := pass.Barrier(j)
	add("Barrier", e, len(found) == 0)
	n, e := pass.Count(j, limit)
	add("Count", e, n == 0)
	must, e := pass.Must(j, limit, one, one)
	add("Must", e, !must)
	r, e := pass.Before(j, limit, one)
	add("Before", e, r == rg(0, 0))
	return all
}

// Each function with a valid job returns its own error, with nothing beside it.
func TestErrorsAlone(t *testing.T) {
	for _, x := range []struct {
		one  api.PassName
		want api.Errno
	}{{name(1, 1), api.ErrBlue}, {name(1, 2), api.ErrArg}} {
		got := errorsOf(chapter(), of(1), of(0, 0, 1, 1), [][]int{{1, 0}}, 49, x.one)
		want := map[string]api.Errno{
			"Heat": api.ErrEqual, "CheckOrder": api.OK, "Blue": api.OK, "Best": api.OK, "CheckBarrier": api.ErrSum,
			"Barrier": api.OK, "Count": api.OK, "Must": x.want, "Before": x.want,
		}
		if !reflect.DeepEqual(got, want) {
			t.Errorf("the errors are %v, not %v", got, want)
		}
	}
}

// P4.2
func TestHeat(t *testing.T) {
	for _, x := range []struct {
		name     string
		j        api.PassJob
		position []int
		want     int64
		e        api.Errno
	}{
		{"of the chapter", chapter(), of(1, 1), 45, api.OK},
		{"the last one of the chapter", chapter(), of(2, 2), 20, api.OK},
		{"the first one", chapter(), of(0, 0), 20, api.OK},
		{"of one edge", chapter(), of(0, 1), 35, api.OK},
		{"after a dip", chapter(), of(2, 0), 10, api.OK},
		{"hottest", greatest(1000, 1000, 1000), of(6, 6, 6, 6), 25000, api.OK},
		{"coldest", greatest(-1000, 1000, -1000), of(6, 6, 6, 6), -25000, api.OK},
		{"nothing", chapter(), nil, 0, api.ErrEqual},
		{"too short", chapter(), of(1), 0, api.ErrEqual},
		{"too long", chapter(), of(1, 1, 0), 0, api.ErrEqual},
		{"of four edges", chapter(), of(0, 0, 0, 0), 0, api.ErrEqual},
		{"too long comes before a number", chapter(), of(9, 1, 0), 0, api.ErrEqual},
		{"far too long", chapter(), make([]int, 5000), 0, api.ErrEqual},
		{"below 0", chapter(), of(-1, 1), 0, api.ErrRange},
		{"more than there are", chapter(), of(1, 3), 0, api.ErrRange},
		{"far off", chapter(), of(math.MaxInt, 0), 0, api.ErrRange},
		{"far below 0", chapter(), of(0, math.MinInt), 0, api.ErrRange},
		{"as many as another edge has", jobOf(0, passes(1, 1), passes(1, 1, 1, 1)), of(2, 1), 0, api.ErrRange},
	} {
		if heat, e := pass.Heat(x.j, x.position); heat != x.want || e != x.e {
			t.Errorf("%s: Heat is %d, %d, not %d, %d", x.name, heat, e, x.want, x.e)
		}
	}
}

// orderCases are orders of the job of the chapter that are none.
var orderCases = []struct {
	name  string
	order []int
	want  api.Errno
}{
	{"too seldom", of(0, 0, 1), api.ErrRule},
	{"too often", of(0, 0, 1, 1, 1), api.ErrRule},
	{"one too seldom, another one too often", of(0, 0, 0, 1), api.ErrRule},
	{"no edge", nil, api.ErrRule},
	{"one edge alone", of(0, 0), api.ErrRule},
	{"far too often", make([]int, 70000), api.ErrRule},
	{"an edge below 0", of(0, 0, 1, -1), api.ErrRange},
	{"an edge too great", of(0, 2, 1, 1), api.ErrRange},
	{"an edge of another job", of(0, 0, 1, 1, 3), api.ErrRange},
	{"an edge far off", of(math.MaxInt, 0, 1, 1), api.ErrRange},
	{"an edge far below 0", of(0, 0, math.MinInt), api.ErrRange},
	{"an edge comes before how often", of(0, 0, 0, 0, 2), api.ErrRange},
}

// P4.3
func TestCheckOrder(t *testing.T) {
	for _, x := range orderCases {
		if heat, e := pass.CheckOrder(chapter(), x.order); heat != 0 || e != x.want {
			t.Errorf("%s: CheckOrder is %d, %d, not %d", x.name, heat, e, x.want)
		}
	}
	sixes := slices.Repeat(of(3, 1, 0, 2), api.MaxPassLong)
	for _, x := range []struct {
		name  string
		j     api.PassJob
		order []int
		want  int64
	}{
		{"of the chapter", chapter(), of(0, 0, 1, 1), 50},
		{"of the chapter in turns", chapter(), of(0, 1, 0, 1), 70},
		{"of the chapter the other way", chapter(), of(1, 1, 0, 0), 60},
		{"of the chapter, hottest in the middle", chapter(), of(1, 0, 0, 1), 65},
		{"one pass without heat", jobOf(-7, passes(0, -9)), of(0), -7},
		{"one pass below 0", jobOf(-1000, passes(1, 1)), of(0), -999},
		{"hottest at first", jobOf(5, passes(9, -9, 3, -3)), of(0, 0), 14},
		{"hottest", greatest(1000, 1000, 1000), sixes, 25000},
		{"coldest", greatest(-1000, 0, -1000), sixes, -1000},
	} {
		if heat, e := pass.CheckOrder(x.j, x.order); heat != x.want || e != api.OK {
			t.Errorf("%s: CheckOrder is %d, %d, not %d", x.name, heat, e, x.want)
		}
	}
}

// P4.4
func TestBlue(t *testing.T) {
	for _, x := range orderCases {
		for _, limit := range []int64{math.MinInt64, 0, math.MaxInt64} {
			if at, e := pass.Blue(chapter(), x.order, limit); at != 0 || e != x.want {
				t.Errorf("%s: Blue with %d is %d, %d, not %d", x.name, limit, at, e, x.want)
			}
		}
	}
	for _, x := range []struct {
		order []int
		limit int64
		want  int
		e     api.Errno
	}{
		{of(1, 0, 0, 1), 64, 1, api.OK},
		{of(1, 0, 0, 1), 65, 0, api.ErrNone},
		{of(1, 0, 0, 1), 60, 1, api.OK},
		{of(1, 0, 0, 1), 59, 0, api.OK},
		{of(0, 0, 1, 1), 49, 0, api.OK},
		{of(0, 0, 1, 1), 50, 0, api.ErrNone},
		{of(0, 1, 0, 1), 69, 1, api.OK},
		{of(0, 1, 1, 0), 69, 1, api.OK},
		{of(0, 1, 1, 0), math.MaxInt64, 0, api.ErrNone},
		{of(0, 1, 1, 0), math.MinInt64, 0, api.OK},
	} {
		if at, e := pass.Blue(chapter(), x.order, x.limit); at != x.want || e != x.e {
			t.Errorf("Blue of %v with %d is %d, %d, not %d, %d", x.order, x.limit, at, e, x.want, x.e)
		}
	}
	late := jobOf(0, passes(1, 1, 1, 1, 1, 1, 1, 1, 1, 1, 1, 1))
	if at, e := pass.Blue(late, make([]int, 6), 5); at != 5 || e != api.OK {
		t.Errorf("Blue at the last pass alone is %d, %d", at, e)
	}
}

// P4.5, P4.6 (Barrier)
func TestBest(t *testing.T) {
	for _, x := range []struct {
		name string
		j    api.PassJob
		want int64
	}{
		{"of the chapter", chapter(), 50},
		{"one pass", jobOf(3, passes(4, 1)), 7},
		{"one pass without heat", jobOf(-1000, passes(0, 0)), -1000},
		{"passes of one edge", jobOf(3, passes(4, 1, 9, 2, 1, 1)), 13},
		{"the second edge first", jobOf(0, passes(10, 10), passes(5, -5)), 5},
		{"a hot pass for a dip behind it", jobOf(0, passes(6, 3, 1, -9), passes(8, 8)), 6},
		{"the least hot one of two ways round", jobOf(0, passes(9, 9, 0, -9), passes(8, 8, 0, -8)), 9},
		{"hottest", greatest(1000, 1000, 1000), 25000},
		{"coldest", greatest(-1000, 0, -1000), -1000},
		{"all as hot", greatest(7, 5, 0), 12},
	} {
		order, heat, e := pass.Best(x.j)
		if heat != x.want || e != api.OK {
			t.Errorf("%s: Best is %v, %d, %d, not %d", x.name, order, heat, e, x.want)
		}
		if heat, e := pass.CheckOrder(x.j, order); heat != x.want || e != api.OK {
			t.Errorf("%s: CheckOrder of %v is %d, %d, not %d", x.name, order, heat, e, x.want)
		}
		barrier, e := pass.Barrier(x.j)
		if e != api.OK {
			t.Errorf("%s: Barrier is %d", x.name, e)
		}
		if bound, e := pass.CheckBarrier(x.j, barrier); bound != x.want || e != api.OK {
			t.Errorf("%s: CheckBarrier of %v is %d, %d, not %d", x.name, barrier, bound, e, x.want)
		}
	}
}

// P4.6 (CheckBarrier)
func TestCheckBarrier(t *testing.T) {
	wrong := make([][]int, api.MaxLong+1)
	right := slices.Repeat([][]int{{0, 0}}, api.MaxLong)
	for _, x := range []struct {
		name string
		l    [][]int
		want int64
		e    api.Errno
	}{
		{"the first position", [][]int{{0, 0}}, 50, api.OK},
		{"two positions", [][]int{{0, 0}, {1, 0}}, 35, api.OK},
		{"the first one comes last", [][]int{{1, 0}, {0, 0}}, 35, api.OK},
		{"a position twice", [][]int{{0, 0}, {1, 0}, {0, 0}, {1, 0}}, 35, api.OK},
		{"one that no step leads to", [][]int{{0, 0}, {2, 1}}, 35, api.OK},
		{"all but the last one", [][]int{{0, 0}, {0, 1}, {0, 2}, {1, 0}, {1, 1}, {1, 2}, {2, 0}, {2, 1}}, 35, api.OK},
		{"most positions", right, 50, api.OK},
		{"too many positions", append(slices.Clone(right), of(0, 0)), 0, api.ErrMany},
		{"too many come before one that is none", wrong, 0, api.ErrMany},
		{"one that is none comes before the first one", wrong[1:], 0, api.ErrRange},
		{"one too short", [][]int{{0, 0}, {0}}, 0, api.ErrRange},
		{"one too long", [][]int{{0, 0}, {0, 0, 0}}, 0, api.ErrRange},
		{"one of four edges", [][]int{{0, 0, 0, 0}}, 0, api.ErrRange},
		{"a number below 0", [][]int{{0, 0}, {0, -1}}, 0, api.ErrRange},
		{"a number too great", [][]int{{0, 0}, {3, 0}}, 0, api.ErrRange},
		{"a number far off", [][]int{{0, 0}, {0, math.MaxInt}}, 0, api.ErrRange},
		{"a number far below 0", [][]int{{0, 0}, {math.MinInt, 0}}, 0, api.ErrRange},
		{"one that is none comes before the last one", [][]int{{2, 2}, {2, 3}}, 0, api.ErrRange},
		{"without the first one", [][]int{{1, 0}}, 0, api.ErrSum},
		{"with the last one", [][]int{{0, 0}, {2, 2}}, 0, api.ErrSum},
		{"the last one alone", [][]int{{2, 2}}, 0, api.ErrSum},
		{"nothing", nil, 0, api.ErrSum},
		{"nothing in a list", [][]int{}, 0, api.ErrSum},
	} {
		if bound, e := pass.CheckBarrier(chapter(), x.l); bound != x.want || e != x.e {
			t.Errorf("%s: CheckBarrier is %d, %d, not %d, %d", x.name, bound, e, x.want, x.e)
		}
	}
}

// P4.7
func TestCount(t *testing.T) {
	const all = 2308743493056 // 24! / (6! 6! 6! 6!)
	for _, x := range []struct {
		name  string
		j     api.PassJob
		limit int64
		want  int64
	}{
		{"below the best", chapter(), 49, 0},
		{"the best", chapter(), 50, 1},
		{"just below another one", chapter(), 59, 1},
		{"two", chapter(), 60, 2},
		{"four", chapter(), 65, 4},
		{"all", chapter(), 70, 6},
		{"any limit", chapter(), math.MaxInt64, 6},
		{"no limit", chapter(), math.MinInt64, 0},
		{"one edge", jobOf(0, passes(1, 0, 2, 0, 3, 0)), 3, 1},
		{"one edge, too hot", jobOf(0, passes(1, 0, 2, 0, 3, 0)), 2, 0},
		{"below 0", jobOf(-9, passes(1, 0), passes(1, 0)), -8, 2},
		{"most", greatest(0, 1, 0), 1, all},
		{"none of most", greatest(0, 1, 0), 0, 0},
		{"hottest", greatest(1000, 1000, 1000), 25000, all},
		{"too hot at last", greatest(1000, 1000, 1000), 24999, 0},
	} {
		if n, e := pass.Count(x.j, x.limit); n != x.want || e != api.OK {
			t.Errorf("%s: Count is %d, %d, not %d", x.name, n, e, x.want)
		}
	}
}

// noNames are names of no pass of the job of the chapter.
var noNames = []api.PassName{
	name(-1, 0), name(2, 0), name(3, 0), name(0, -1), name(0, 2), name(1, 2),
	name(math.MaxInt, 0), name(math.MinInt, 0), name(0, math.MaxInt), name(1, math.MinInt), name(2, -1),
}

// P4.8 (Must)
func TestMust(t *testing.T) {
	for _, x := range []struct {
		limit    int64
		one, two api.PassName
		want     bool
		e        api.Errno
	}{
		{50, name(0, 1), name(1, 0), true, api.OK},
		{60, name(0, 1), name(1, 0), false, api.OK},
		{49, name(0, 1), name(1, 0), false, api.ErrBlue},
		{50, name(1, 0), name(0, 1), false, api.OK},
		{60, name(1, 0), name(0, 1), false, api.OK},
		{50, name(0, 0), name(1, 1), true, api.OK},
		{70, name(0, 0), name(0, 1), true, api.OK},
		{70, name(0, 1), name(0, 0), false, api.OK},
		{50, name(0, 1), name(0, 1), false, api.OK},
		{70, name(0, 0), name(0, 0), false, api.OK},
		{49, name(0, 0), name(0, 0), false, api.ErrBlue},
		{math.MinInt64, name(0, 0), name(0, 1), false, api.ErrBlue},
		{math.MaxInt64, name(0, 0), name(1, 0), false, api.OK},
		{math.MaxInt64, name(0, 0), name(0, 1), true, api.OK},
	} {
		if must, e := pass.Must(chapter(), x.limit, x.one, x.two); must != x.want || e != x.e {
			t.Errorf("Must with %d of %v, %v is %t, %d, not %t, %d", x.limit, x.one, x.two, must, e, x.want, x.e)
		}
	}
	for _, none := range noNames {
		for _, limit := range []int64{49, 50} {
			for _, two := range [][2]api.PassName{{none, name(0, 0)}, {name(0, 0), none}, {none, none}} {
				if must, e := pass.Must(chapter(), limit, two[0], two[1]); must || e != api.ErrArg {
					t.Errorf("Must with %d of %v is %t, %d", limit, two, must, e)
				}
			}
		}
	}
}

// P4.8 (Before)
func TestBefore(t *testing.T) {
	for _, x := range []struct {
		limit int64
		pass  api.PassName
		want  api.Range
		e     api.Errno
	}{
		{50, name(1, 0), rg(10, 10), api.OK},
		{60, name(1, 0), rg(10, 20), api.OK},
		{70, name(1, 0), rg(10, 30), api.OK},
		{49, name(1, 0), rg(0, 0), api.ErrBlue},
		{50, name(0, 0), rg(20, 20), api.OK},
		{60, name(0, 0), rg(20, 30), api.OK},
		{65, name(0, 0), rg(20, 35), api.OK},
		{math.MaxInt64, name(0, 0), rg(20, 35), api.OK},
		{math.MinInt64, name(0, 0), rg(0, 0), api.ErrBlue},
	} {
		if r, e := pass.Before(chapter(), x.limit, x.pass); r != x.want || e != x.e {
			t.Errorf("Before with %d of %v is %v, %d, not %v, %d", x.limit, x.pass, r, e, x.want, x.e)
		}
	}
	for _, none := range noNames {
		for _, limit := range []int64{49, 50} {
			if r, e := pass.Before(chapter(), limit, none); r != rg(0, 0) || e != api.ErrArg {
				t.Errorf("Before with %d of %v is %v, %d", limit, none, r, e)
			}
		}
	}
	if r, e := pass.Before(greatest(1000, 1000, 1000), 25000, name(3, 5)); r != rg(6000, 24000) || e != api.OK {
		t.Errorf("Before of the hottest job is %v, %d", r, e)
	}
	if r, e := pass.Before(greatest(-1000, 1000, -1000), 0, name(3, 0)); r != rg(-19000, -1000) || e != api.OK {
		t.Errorf("Before of the coldest job is %v, %d", r, e)
	}
}

// R4, R9: no argument is changed, and what one call returns is not what another one returns, or was given.
func TestMemory(t *testing.T) {
	j, position, order, given := chapter(), of(1, 1), of(0, 0, 1, 1), [][]int{{0, 0}, {1, 0}}
	best, _, _ := pass.Best(j)
	barrier, _ := pass.Barrier(j)
	for range 2 {
		errorsOf(j, position, order, given, 50, name(1, 0))
		one, _, _ := pass.Best(j)
		two, _ := pass.Barrier(j)
		if !slices.Equal(one, best) || !reflect.DeepEqual(two, barrier) {
			t.Errorf("another call returns %v, %v, not %v, %v", one, two, best, barrier)
		}
		clear(one)
		for i, p := range two {
			for k := range p[:cap(p)] {
				p[:cap(p)][k] = -1
			}
			if i+1 < len(two) && slices.Contains(two[i+1], -1) {
				t.Errorf("two positions of a barrier share memory: %v", two)
			}
		}
	}
	if !reflect.DeepEqual(j, chapter()) || !slices.Equal(position, of(1, 1)) || !slices.Equal(order, of(0, 0, 1, 1)) || !reflect.DeepEqual(given, [][]int{{0, 0}, {1, 0}}) {
		t.Errorf("an argument has changed: %v, %v, %v, %v", j, position, order, given)
	}
}
