package rim_test

import (
	"math"
	"reflect"
	"slices"
	"testing"

	"bolster/api"
	"bolster/rim"
)

func rg(lo, hi int64) api.Range { return api.Range{Lo: lo, Hi: hi} }

func list(x ...int64) []int64 { return x }

// runs returns a plan: two numbers for each run, From and Pulley.
func runs(x ...int64) []api.RimRun {
	var plan []api.RimRun
	for i := 0; i < len(x); i += 2 {
		plan = append(plan, api.RimRun{From: x[i], Pulley: int(x[i+1])})
	}
	return plan
}

// chapter returns the stone S of the chapter's examples with its pulleys, in new memory.
func chapter() works {
	s := api.RimStone{Long: 3000, Short: 1500, Off: 10, Speed: rg(540000, 720000)}
	return works{s, list(200, 250, 260, 300, 390)}
}

// gaping returns the stone of the examples with 400 in place of 390: it has a gap.
func gaping() works {
	w := chapter()
	w.pulleys[4] = 400
	return w
}

// free returns works with these pulleys on which everything is allowed from Short to Long.
func free(long, short int64, pulleys ...int64) works {
	return works{api.RimStone{Long: long, Short: short, Speed: rg(0, api.MaxRimSpeed)}, pulleys}
}

// stoneCases change the works of the chapter, and tell what CheckStone says of them then.
var stoneCases = []struct {
	name   string
	change func(w *works)
	want   api.Errno
}{
	{"as they are", func(w *works) {}, api.OK},
	{"one pulley", func(w *works) { w.pulleys = list(1) }, api.OK},
	{"most pulleys", func(w *works) { w.pulleys = slices.Repeat(list(api.MaxRimTurns), 12) }, api.OK},
	{"Short is Long", func(w *works) { w.Short = w.Long }, api.OK},
	{"Short 1", func(w *works) { w.Short, w.Off = 1, 0 }, api.OK},
	{"Long greatest", func(w *works) { w.Long = 100000 }, api.OK},
	{"a stone of 1", func(w *works) { w.Long, w.Short, w.Off = 1, 1, 0 }, api.OK},
	{"Off 0", func(w *works) { w.Off = 0 }, api.OK},
	{"Off greatest", func(w *works) { w.Off = 1499 }, api.OK},
	{"Speed of one number", func(w *works) { w.Speed = rg(7, 7) }, api.OK},
	{"Speed widest", func(w *works) { w.Speed = rg(0, 1000000000) }, api.OK},
	{"nothing", func(w *works) { *w = works{} }, api.ErrMany},
	{"no pulleys", func(w *works) { w.pulleys = list() }, api.ErrMany},
	{"too many pulleys", func(w *works) { w.pulleys = slices.Repeat(list(1), 13) }, api.ErrMany},
	{"too many comes before the stone", func(w *works) { w.pulleys, w.Off = make([]int64, 13), -1 }, api.ErrMany},
	{"too few comes before the stone", func(w *works) { w.pulleys, w.Short = nil, 0 }, api.ErrMany},
	{"Short 0", func(w *works) { w.Short = 0 }, api.ErrArg},
	{"Short 0, Off below it", func(w *works) { w.Short, w.Off = 0, -1 }, api.ErrArg},
	{"Short far off", func(w *works) { w.Short = math.MinInt64 }, api.ErrArg},
	{"Short above Long", func(w *works) { w.Short = 3001 }, api.ErrArg},
	{"Short far above Long", func(w *works) { w.Short = math.MaxInt64 }, api.ErrArg},
	{"Long too great", func(w *works) { w.Long = 100001 }, api.ErrArg},
	{"Long far off", func(w *works) { w.Long = math.MaxInt64 }, api.ErrArg},
	{"Long below 0", func(w *works) { w.Long = math.MinInt64 }, api.ErrArg},
	{"Off below 0", func(w *works) { w.Off = -1 }, api.ErrArg},
	{"Off far below 0", func(w *works) { w.Off = math.MinInt64 }, api.ErrArg},
	{"Off Short", func(w *works) { w.Off = 1500 }, api.ErrArg},
	{"Off far off", func(w *works) { w.Off = math.MaxInt64 }, api.ErrArg},
	{"Speed turned round", func(w *works) { w.Speed = rg(8, 7) }, api.ErrArg},
	{"Speed below 0", func(w *works) { w.Speed = rg(-1, 7) }, api.ErrArg},
	{"Speed too high", func(w *works) { w.Speed = rg(7, 1000000001) }, api.ErrArg},
	{"Speed far off", func(w *works) { w.Speed = rg(math.MinInt64, math.MaxInt64) }, api.ErrArg},
	{"the stone comes before turns", func(w *works) { w.Off, w.pulleys[0] = -1, 0 }, api.ErrArg},
	{"turns 0", func(w *works) { w.pulleys[4] = 0 }, api.ErrRange},
	{"turns below 0", func(w *works) { w.pulleys[0] = -200 }, api.ErrRange},
	{"turns too many", func(w *works) { w.pulleys[2] = 10001 }, api.ErrRange},
	{"turns far off", func(w *works) { w.pulleys[2] = math.MaxInt64 }, api.ErrRange},
	{"turns far below 0", func(w *works) { w.pulleys[2] = math.MinInt64 }, api.ErrRange},
}

// P3.1, and that all functions return the error of CheckStone before all others
func TestCheckStone(t *testing.T) {
	for _, x := range stoneCases {
		w := chapter()
		x.change(&w)
		if e := rim.CheckStone(w.RimStone, w.pulleys); e != x.want {
			t.Errorf("%s: CheckStone is %d, not %d", x.name, e, x.want)
		}
		if x.want == api.OK {
			continue
		}
		for name, got := range errorsOf(w, nil, make([]int64, 21), -1, 0) {
			if got != x.want {
				t.Errorf("%s: %s is %d, not %d", x.name, name, got, x.want)
			}
		}
	}
}

// errorsOf returns the error of each function but CheckStone, or -1 if another result is not zero with an error.
func errorsOf(w works, plan []api.RimRun, points []int64, pulley, n int) map[string]api.Errno {
	all := map[string]api.Errno{}
	add := func(name string, e api.Errno, zero bool) {
		if e != api.OK && !zero {
			e = -1
		}
		all[name] = e
	}
	r, e := rim.Allowed(w.RimStone, w.pulleys, pulley)
	add("Allowed", e, r == rg(0, 0))
	gap, e := rim.Gap(w.RimStone, w.pulleys)
	add("Gap", e, gap == 0)
	add("CheckPlan", rim.CheckPlan(w.RimStone, w.pulleys, plan), true)
	r, e = rim.Speeds(w.RimStone, w.pulleys, plan)
	add("Speeds", e, r == rg(0, 0))
	made, e := rim.Plan(w.RimStone, w.pulleys)
	add("Plan", e, len(made) == 0)
	add("CheckPoints", rim.CheckPoints(w.RimStone, w.pulleys, points), true)
	found, e := rim.Points(w.RimStone, w.pulleys)
	add("Points", e, len(found) == 0)
	far, e := rim.Far(w.RimStone, w.pulleys, n)
	add("Far", e, far == 0)
	kinds, e := rim.Kinds(w.RimStone, w.pulleys)
	add("Kinds", e, len(kinds) == 0)
	return all
}

// Each function of works with a gap returns its error, with nothing beside it.
func TestErrorsAlone(t *testing.T) {
	got := errorsOf(gaping(), runs(3000, 4), list(2000, 1900), 5, 0)
	want := map[string]api.Errno{
		"Allowed": api.ErrRange, "Gap": api.OK, "CheckPlan": api.ErrRim, "Speeds": api.ErrRim, "Plan": api.ErrRim,
		"CheckPoints": api.ErrSum, "Points": api.ErrRim, "Far": api.ErrArg, "Kinds": api.ErrRim,
	}
	if !reflect.DeepEqual(got, want) {
		t.Errorf("the errors are %v, not %v", got, want)
	}
}

// P3.2
func TestAllowed(t *testing.T) {
	w := chapter()
	for p, want := range []api.Range{rg(2710, 3000), rg(2170, 2870), rg(2087, 2759), rg(1810, 2390), rg(1500, 1836)} {
		if r, e := rim.Allowed(w.RimStone, w.pulleys, p); r != want || e != api.OK {
			t.Errorf("Allowed of %d is %v, %d, not %v", p, r, e, want)
		}
	}
	for _, p := range []int{-1, 5, math.MinInt, math.MaxInt} {
		if r, e := rim.Allowed(w.RimStone, w.pulleys, p); r != rg(0, 0) || e != api.ErrRange {
			t.Errorf("Allowed of %d is %v, %d", p, r, e)
		}
	}
	for _, x := range []struct {
		name string
		w    works
		want api.Range
		e    api.Errno
	}{
		{"too slow", works{w.RimStone, list(178)}, rg(0, 0), api.ErrNone},
		{"too fast", works{w.RimStone, list(485)}, rg(0, 0), api.ErrNone},
		{"fast enough at Long alone", works{w.RimStone, list(181)}, rg(2994, 3000), api.OK},
		{"slow enough at Short alone", works{w.RimStone, list(476)}, rg(1500, 1502), api.OK},
		{"everywhere", free(3000, 1500, 1), rg(1500, 3000), api.OK},
		{"at one length", works{api.RimStone{Long: 9, Short: 1, Speed: rg(35, 39)}, list(6)}, rg(6, 6), api.OK},
		{"between two lengths", works{api.RimStone{Long: 9, Short: 1, Speed: rg(37, 41)}, list(6)}, rg(0, 0), api.ErrNone},
		{"off too far", works{api.RimStone{Long: 9, Short: 5, Off: 4, Speed: rg(10, 19)}, list(2)}, rg(0, 0), api.ErrNone},
		{"just not off too far", works{api.RimStone{Long: 9, Short: 5, Off: 4, Speed: rg(10, 26)}, list(2)}, rg(9, 9), api.OK},
		{"a speed of 0", works{api.RimStone{Long: 9, Short: 1}, list(1)}, rg(0, 0), api.ErrNone},
		{"the greatest numbers", free(100000, 1, 10000), rg(1, 100000), api.OK},
		{"the greatest speed alone", works{api.RimStone{Long: 100000, Short: 1, Speed: rg(1000000000, 1000000000)}, list(10000)}, rg(100000, 100000), api.OK},
		{"above the greatest speed", works{api.RimStone{Long: 100000, Short: 2, Off: 1, Speed: rg(0, 1000000000)}, list(10000)}, rg(2, 99999), api.OK},
	} {
		if r, e := rim.Allowed(x.w.RimStone, x.w.pulleys, 0); r != x.want || e != x.e {
			t.Errorf("%s: Allowed is %v, %d, not %v, %d", x.name, r, e, x.want, x.e)
		}
	}
}

// P3.2
func TestGap(t *testing.T) {
	s := chapter().RimStone
	for _, x := range []struct {
		name string
		w    works
		want int64
		e    api.Errno
	}{
		{"of the chapter", chapter(), 0, api.ErrNone},
		{"with 400 in place of 390", gaping(), 1809, api.OK},
		{"no pulley is allowed anywhere", works{s, list(1, 10000)}, 3000, api.OK},
		{"none is allowed at Long", works{s, list(250, 300, 390)}, 3000, api.OK},
		{"none is allowed at Short", works{s, list(200, 260, 300, 360)}, 1509, api.OK},
		{"the greatest of two", works{s, list(200, 300)}, 2709, api.OK},
		{"one pulley", free(3000, 1500, 7), 0, api.ErrNone},
		{"one length", free(1, 1, 7), 0, api.ErrNone},
		{"one length that is a gap", works{api.RimStone{Long: 1, Short: 1, Speed: rg(8, 9)}, list(7)}, 1, api.OK},
	} {
		if gap, e := rim.Gap(x.w.RimStone, x.w.pulleys); gap != x.want || e != x.e {
			t.Errorf("%s: Gap is %d, %d, not %d, %d", x.name, gap, e, x.want, x.e)
		}
	}
}

// many returns a plan of so many runs on a free stone from 100 on.
func many(n int64) []api.RimRun {
	var plan []api.RimRun
	for i := range n {
		plan = append(plan, api.RimRun{From: 100 - i, Pulley: int(i % 2)})
	}
	return plan
}

// P3.3
func TestCheckPlanAndSpeeds(t *testing.T) {
	s, two := chapter(), free(100, 1, 3, 5)
	for _, x := range []struct {
		name   string
		w      works
		plan   []api.RimRun
		speeds api.Range
		e      api.Errno
	}{
		{"Plan of S", s, runs(3000, 0, 2709, 2, 2086, 3, 1809, 4), rg(540000, 709410), api.OK},
		{"another one", s, runs(3000, 0, 2800, 1, 2169, 3, 1836, 4), rg(540000, 719940), api.OK},
		{"a pulley twice", two, runs(100, 0, 99, 1, 50, 0), rg(3, 495), api.OK},
		{"a pulley twice, one after the other", two, runs(100, 1, 99, 1), rg(5, 500), api.OK},
		{"each run of one length", free(2, 1, 4, 9), runs(2, 0, 1, 1), rg(8, 9), api.OK},
		{"the slowest is not at the last length", free(20, 9, 1, 5), runs(20, 0, 9, 1), rg(10, 45), api.OK},
		{"most runs", two, many(20), rg(5, 495), api.OK},
		{"nothing", s, nil, rg(0, 0), api.ErrMany},
		{"no runs", s, runs(), rg(0, 0), api.ErrMany},
		{"too many runs", two, many(21), rg(0, 0), api.ErrMany},
		{"too many comes before a From", two, make([]api.RimRun, 21), rg(0, 0), api.ErrMany},
		{"does not begin at Long", s, runs(2999, 0, 2709, 2, 2086, 3, 1809, 4), rg(0, 0), api.ErrRange},
		{"begins above Long", s, runs(3001, 0, 2709, 2, 2086, 3, 1809, 4), rg(0, 0), api.ErrRange},
		{"begins above, and goes on at Long", s, runs(3001, 0, 3000, 0), rg(0, 0), api.ErrRange},
		{"a From again", s, runs(3000, 0, 2709, 2, 2709, 3, 1809, 4), rg(0, 0), api.ErrRange},
		{"a greater From", s, runs(3000, 0, 2086, 2, 2709, 3, 1809, 4), rg(0, 0), api.ErrRange},
		{"a From below Short", s, runs(3000, 0, 2709, 2, 2086, 3, 1809, 4, 1499, 4), rg(0, 0), api.ErrRange},
		{"a From far off", s, runs(3000, 0, math.MinInt64, 2), rg(0, 0), api.ErrRange},
		{"a From far above", s, runs(math.MaxInt64, 0), rg(0, 0), api.ErrRange},
		{"no pulley of this index", s, runs(3000, 0, 2709, 2, 2086, 3, 1809, 5), rg(0, 0), api.ErrRange},
		{"no pulley below 0", s, runs(3000, -1), rg(0, 0), api.ErrRange},
		{"no pulley far off", s, runs(3000, math.MaxInt64), rg(0, 0), api.ErrRange},
		{"a From comes before the rims", s, runs(3000, 4, 3000, 0), rg(0, 0), api.ErrRange},
		{"a pulley comes before the rims", s, runs(3000, 4, 2709, 9), rg(0, 0), api.ErrRange},
		{"too slow at the end of a run", s, runs(3000, 0, 2800, 1, 2100, 3, 1836, 4), rg(0, 0), api.ErrRim},
		{"too fast at the beginning of a run", s, runs(3000, 0, 2760, 2, 2086, 3, 1809, 4), rg(0, 0), api.ErrRim},
		{"too fast at Long", s, runs(3000, 1, 2086, 3, 1809, 4), rg(0, 0), api.ErrRim},
		{"too slow at Short", s, runs(3000, 0, 2709, 2, 2086, 3), rg(0, 0), api.ErrRim},
		{"a gap", gaping(), runs(3000, 0, 2709, 2, 2086, 3, 1809, 4), rg(0, 0), api.ErrRim},
		{"allowed nowhere", works{s.RimStone, list(1)}, runs(3000, 0), rg(0, 0), api.ErrRim},
	} {
		if e := rim.CheckPlan(x.w.RimStone, x.w.pulleys, x.plan); e != x.e {
			t.Errorf("%s: CheckPlan is %d, not %d", x.name, e, x.e)
		}
		if r, e := rim.Speeds(x.w.RimStone, x.w.pulleys, x.plan); r != x.speeds || e != x.e {
			t.Errorf("%s: Speeds is %v, %d, not %v, %d", x.name, r, e, x.speeds, x.e)
		}
	}
}

// P3.4, P3.5
func TestPlanAndPoints(t *testing.T) {
	s := chapter().RimStone
	for _, x := range []struct {
		name string
		w    works
		want []api.RimRun
		e    api.Errno
	}{
		{"of the chapter", chapter(), runs(3000, 0, 2709, 2, 2086, 3, 1809, 4), api.OK},
		{"the first one of several", free(9, 1, 3, 5, 2), runs(9, 0), api.OK},
		{"the first one of several in the middle", works{s, list(260, 200, 300, 300, 260, 390, 390)}, runs(3000, 1, 2709, 0, 2086, 2, 1809, 5), api.OK},
		{"one length", free(1, 1, 3), runs(1, 0), api.OK},
		{"a run at Short alone", works{api.RimStone{Long: 9, Short: 8, Speed: rg(9, 16)}, list(1, 2)}, runs(9, 0, 8, 1), api.OK},
		{"with a gap", gaping(), nil, api.ErrRim},
		{"with a gap at Long", works{s, list(250, 300, 390)}, nil, api.ErrRim},
		{"with a gap at Short", works{s, list(200, 260, 300, 360)}, nil, api.ErrRim},
		{"allowed nowhere", works{s, list(1, 1)}, nil, api.ErrRim},
	} {
		plan, e := rim.Plan(x.w.RimStone, x.w.pulleys)
		if !slices.Equal(plan, x.want) || e != x.e {
			t.Errorf("%s: Plan is %v, %d, not %v, %d", x.name, plan, e, x.want, x.e)
		}
		points, e := rim.Points(x.w.RimStone, x.w.pulleys)
		if !slices.Equal(points, froms(x.want)) || e != x.e {
			t.Errorf("%s: Points is %v, %d, not %v, %d", x.name, points, e, froms(x.want), x.e)
		}
	}
}

// P3.4, P3.7: of twelve pulleys, each of which has twice as many turns as the one before it, none can be left out.
func TestLongestPlan(t *testing.T) {
	w := works{RimStone: api.RimStone{Long: 100000, Short: 25, Speed: rg(50000, 100000)}}
	for i := range 12 {
		w.pulleys = append(w.pulleys, 1<<i)
	}
	plan, e := rim.Plan(w.RimStone, w.pulleys)
	if len(plan) != 12 || len(w.pulleys) != 12 || e != api.OK || !slices.Equal(plan, w.plan()) {
		t.Errorf("the plan of %v is %v, %d", w, plan, e)
	}
	kinds, e := rim.Kinds(w.RimStone, w.pulleys)
	if !slices.Equal(kinds, slices.Repeat([]int{api.RimAlways}, 12)) || e != api.OK {
		t.Errorf("the kinds of %v are %v, %d", w, kinds, e)
	}
}

// P3.5
func TestCheckPoints(t *testing.T) {
	s := chapter()
	for _, x := range []struct {
		name   string
		w      works
		points []int64
		want   api.Errno
	}{
		{"Points of S", s, list(3000, 2709, 2086, 1809), api.OK},
		{"no points", s, nil, api.OK},
		{"empty points", s, list(), api.OK},
		{"one point", s, list(2500), api.OK},
		{"a point at Long, and one at Short", s, list(3000, 1500), api.OK},
		{"gaps stand apart from all", works{s.RimStone, list(1)}, list(2500, 2499, 2498), api.OK},
		{"a pulley at two of them", s, list(3000, 2800, 2000), api.ErrSum},
		{"a pulley at the last two of them", s, list(3000, 2709, 1836, 1810), api.ErrSum},
		{"a pulley at the first one and the last one", free(9, 1, 3), list(9, 5, 1), api.ErrSum},
		{"a later pulley at two of them", works{s.RimStone, list(1, 1, 1, 1, 1, 1, 1, 1, 1, 1, 1, 300)}, list(2390, 1810), api.ErrSum},
		{"most points", free(100, 1, 3), froms(many(20)), api.ErrSum},
		{"most points in gaps", works{api.RimStone{Long: 100, Short: 1}, list(1)}, froms(many(20)), api.OK},
		{"too many points", free(100, 1, 3), froms(many(21)), api.ErrMany},
		{"too many comes before a length", s, make([]int64, 21), api.ErrMany},
		{"a point again", s, list(3000, 3000), api.ErrRange},
		{"a greater point", s, list(2000, 3000), api.ErrRange},
		{"a point above Long", s, list(3001, 2000), api.ErrRange},
		{"a point below Short", s, list(3000, 1499), api.ErrRange},
		{"points far off", s, list(math.MaxInt64, math.MinInt64), api.ErrRange},
		{"a length comes before the pulleys", s, list(3000, 2800, 1499), api.ErrRange},
	} {
		if e := rim.CheckPoints(x.w.RimStone, x.w.pulleys, x.points); e != x.want {
			t.Errorf("%s: CheckPoints is %d, not %d", x.name, e, x.want)
		}
	}
}

// P3.6
func TestFar(t *testing.T) {
	s, none := chapter(), works{chapter().RimStone, list(1)}
	for _, x := range []struct {
		name string
		w    works
		runs int
		want int64
		e    api.Errno
	}{
		{"one run", s, 1, 2710, api.OK},
		{"two runs", s, 2, 2087, api.OK},
		{"three runs", s, 3, 1810, api.OK},
		{"four runs", s, 4, 1500, api.OK},
		{"more runs than needed", s, 5, 1500, api.OK},
		{"most runs", s, 20, 1500, api.OK},
		{"down to a gap", gaping(), 3, 1810, api.OK},
		{"not beyond a gap", gaping(), 4, 1810, api.OK},
		{"one run of one length", free(1, 1, 1), 1, 1, api.OK},
		{"no runs", s, 0, 0, api.ErrArg},
		{"runs below 0", s, -1, 0, api.ErrArg},
		{"too many runs", s, 21, 0, api.ErrArg},
		{"runs far off", s, math.MaxInt, 0, api.ErrArg},
		{"runs far below 0", s, math.MinInt, 0, api.ErrArg},
		{"a gap at Long", none, 1, 0, api.ErrRim},
		{"a gap at Long with most runs", none, 20, 0, api.ErrRim},
		{"a gap at Long alone", works{s.RimStone, list(250, 300, 390)}, 3, 0, api.ErrRim},
		{"the number of runs comes before a gap", none, 0, 0, api.ErrArg},
	} {
		if far, e := rim.Far(x.w.RimStone, x.w.pulleys, x.runs); far != x.want || e != x.e {
			t.Errorf("%s: Far is %d, %d, not %d, %d", x.name, far, e, x.want, x.e)
		}
	}
}

// P3.7
func TestKinds(t *testing.T) {
	s := chapter().RimStone
	for _, x := range []struct {
		name string
		w    works
		want []int
		e    api.Errno
	}{
		{"of the chapter", chapter(), []int{2, 1, 1, 2, 2}, api.OK},
		{"one pulley", free(9, 1, 3), []int{2}, api.OK},
		{"two of which each will do", free(9, 1, 3, 5), []int{1, 1}, api.OK},
		{"one that is allowed nowhere", works{s, list(200, 250, 260, 300, 390, 1)}, []int{2, 1, 1, 2, 2, 0}, api.OK},
		{"one that is never needed", works{api.RimStone{Long: 9, Short: 6, Speed: rg(6, 16)}, list(1, 2)}, []int{2, 0}, api.OK},
		{"one that Plan does not have", works{api.RimStone{Long: 12, Short: 6, Speed: rg(12, 24)}, list(1, 2, 2)}, []int{0, 1, 1}, api.OK},
		{"with a gap", gaping(), nil, api.ErrRim},
		{"allowed nowhere", works{s, list(1)}, nil, api.ErrRim},
	} {
		if kinds, e := rim.Kinds(x.w.RimStone, x.w.pulleys); !slices.Equal(kinds, x.want) || e != x.e {
			t.Errorf("%s: Kinds is %v, %d, not %v, %d", x.name, kinds, e, x.want, x.e)
		}
	}
}

// R4, R9: no argument is changed, and what one call returns is not what another one returns, or was given.
func TestMemory(t *testing.T) {
	w, plan, points := chapter(), runs(3000, 0, 2709, 2, 2086, 3, 1809, 4), list(3000, 2709, 2086, 1809)
	for range 2 {
		errorsOf(w, plan, points, 0, 4)
		made, _ := rim.Plan(w.RimStone, w.pulleys)
		found, _ := rim.Points(w.RimStone, w.pulleys)
		kinds, _ := rim.Kinds(w.RimStone, w.pulleys)
		if !slices.Equal(made, plan) || !slices.Equal(found, points) || !slices.Equal(kinds, []int{2, 1, 1, 2, 2}) {
			t.Errorf("another call returns %v, %v, %v", made, found, kinds)
		}
		clear(made)
		clear(found)
		clear(kinds)
	}
	if !reflect.DeepEqual(w, chapter()) || plan[3] != (api.RimRun{From: 1809, Pulley: 4}) || points[3] != 1809 {
		t.Errorf("an argument has changed: %v, %v, %v", w, plan, points)
	}
}
