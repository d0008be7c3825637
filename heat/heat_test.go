package heat_test

import (
	"math"
	"reflect"
	"slices"
	"testing"

	"bolster/api"
	"bolster/heat"
)

func rg(lo, hi int64) api.Range { return api.Range{Lo: lo, Hi: hi} }

// way returns a way of kinks that are given by three numbers each: From, and the ends of After.
func way(x ...int64) api.HeatWay {
	var w api.HeatWay
	for i := 0; i < len(x); i += 3 {
		w.Kinks = append(w.Kinks, api.HeatKink{From: x[i], After: rg(x[i+1], x[i+2])})
	}
	return w
}

func step(w ...api.HeatWay) api.HeatStep { return api.HeatStep{Ways: w} }

func recipe(bar int, ways ...int) api.HeatRecipe { return api.HeatRecipe{Bar: bar, Ways: ways} }

func list(x ...int64) []int64 { return x }

// chapter returns the works W of the chapter's examples, in new memory.
func chapter() api.HeatWorks {
	return api.HeatWorks{
		Bars: []api.Range{rg(100, 170), rg(150, 300)},
		Steps: []api.HeatStep{
			step(way(0, 400, 500, 180, 450, 600), way(0, 300, 650)),
			step(way(0, 200, 300, 420, 280, 400, 550, 350, 480)),
		},
	}
}

// stairs returns a way with so many kinks that keeps the hardnesses below kinks-1 as they are.
func stairs(kinks int) api.HeatWay {
	var w api.HeatWay
	for i := range int64(kinks) {
		w.Kinks = append(w.Kinks, api.HeatKink{From: i, After: rg(i, i)})
	}
	return w
}

// largest returns a works with as much of everything as there can be.
func largest() api.HeatWorks {
	var w api.HeatWorks
	for i := range int64(api.MaxHeatBars) {
		w.Bars = append(w.Bars, rg(i, 1000-i))
	}
	for range api.MaxHeatSteps {
		var s api.HeatStep
		for range api.MaxHeatWays {
			s.Ways = append(s.Ways, stairs(api.MaxHeatKinks))
		}
		w.Steps = append(w.Steps, s)
	}
	return w
}

// wayCases are ways, and what CheckWay says of them.
var wayCases = []struct {
	name string
	w    api.HeatWay
	want api.Errno
}{
	{"one kink", way(0, 0, 1000), api.OK},
	{"single hardness", way(0, 7, 7), api.OK},
	{"all the same", way(0, 5, 9, 7, 5, 9, 8, 5, 9), api.OK},
	{"next one begins right behind", way(0, 5, 9, 1000, 10, 12), api.OK},
	{"next one begins within", way(0, 5, 9, 1, 9, 9), api.OK},
	{"most kinks", stairs(12), api.OK},
	{"no kink", way(), api.ErrMany},
	{"empty kinks", api.HeatWay{Kinks: []api.HeatKink{}}, api.ErrMany},
	{"too many kinks", stairs(13), api.ErrMany},
	{"too many kinks that are wrong", api.HeatWay{Kinks: make([]api.HeatKink, 13)}, api.ErrMany},
	{"first From above 0", way(1, 5, 9), api.ErrRange},
	{"first From below 0", way(-1, 5, 9), api.ErrRange},
	{"From twice", way(0, 5, 9, 0, 5, 9), api.ErrRange},
	{"From twice, later", way(0, 5, 9, 4, 5, 9, 4, 5, 9), api.ErrRange},
	{"From decreasing", way(0, 5, 9, 4, 5, 9, 3, 5, 9), api.ErrRange},
	{"From no hardness", way(0, 5, 9, 1001, 5, 9), api.ErrRange},
	{"greatest From", way(0, 5, 9, math.MaxInt64, 5, 9), api.ErrRange},
	{"After turned round", way(0, 9, 8), api.ErrRange},
	{"After below 0", way(0, -1, 5), api.ErrRange},
	{"After above the greatest hardness", way(0, 1, 1001), api.ErrRange},
	{"After far off", way(0, math.MinInt64, math.MaxInt64), api.ErrRange},
	{"second After not valid", way(0, 5, 9, 4, 9, 8), api.ErrRange},
	{"After invalid comes before the rule", way(0, 5, 9, 4, 4, 9, 6, 5, 1001), api.ErrRange},
	{"From invalid comes before the rule", way(0, 5, 9, 4, 4, 9, 3, 5, 9), api.ErrRange},
	{"Lo falls", way(0, 5, 9, 4, 4, 9), api.ErrRule},
	{"Hi falls", way(0, 5, 9, 4, 5, 8), api.ErrRule},
	{"a hardness left out", way(0, 5, 9, 4, 11, 12), api.ErrRule},
	{"rule broken at the last kink", way(0, 5, 9, 4, 5, 9, 6, 11, 12), api.ErrRule},
	{"Lo falls again", way(0, 5, 9, 4, 7, 9, 6, 6, 9), api.ErrRule},
}

// P1.1
func TestCheckWay(t *testing.T) {
	for _, x := range wayCases {
		if e := heat.CheckWay(x.w); e != x.want {
			t.Errorf("%s: CheckWay is %d, not %d", x.name, e, x.want)
		}
		for _, hard := range []int64{-1, 1001, 0} {
			if r, e := heat.After(x.w, hard); x.want != api.OK && (e != x.want || r != api.Range{}) {
				t.Errorf("%s: After is %v, %d, not %d", x.name, r, e, x.want)
			}
		}
	}
}

// P1.1
func TestAfter(t *testing.T) {
	second := chapter().Steps[1].Ways[0]
	for _, x := range []struct {
		w    api.HeatWay
		hard int64
		want api.Range
		e    api.Errno
	}{
		{second, 0, rg(200, 300), api.OK},
		{second, 419, rg(200, 300), api.OK},
		{second, 420, rg(280, 400), api.OK},
		{second, 421, rg(280, 400), api.OK},
		{second, 549, rg(280, 400), api.OK},
		{second, 550, rg(350, 480), api.OK},
		{second, 1000, rg(350, 480), api.OK},
		{second, 1001, rg(0, 0), api.ErrArg},
		{second, -1, rg(0, 0), api.ErrArg},
		{second, math.MaxInt64, rg(0, 0), api.ErrArg},
		{second, math.MinInt64, rg(0, 0), api.ErrArg},
		{way(0, 5, 9, 1000, 10, 12), 999, rg(5, 9), api.OK},
		{way(0, 5, 9, 1000, 10, 12), 1000, rg(10, 12), api.OK},
		{stairs(12), 10, rg(10, 10), api.OK},
		{stairs(12), 11, rg(11, 11), api.OK},
		{stairs(12), 12, rg(11, 11), api.OK},
		{way(0, 5, 9), 500, rg(5, 9), api.OK},
	} {
		if r, e := heat.After(x.w, x.hard); r != x.want || e != x.e {
			t.Errorf("After of %v, %d is %v, %d, not %v, %d", x.w, x.hard, r, e, x.want, x.e)
		}
	}
}

// worksCases change the works of the chapter, and tell what CheckWorks says of it then.
var worksCases = []struct {
	name   string
	change func(w *api.HeatWorks)
	want   api.Errno
}{
	{"as it is", func(w *api.HeatWorks) {}, api.OK},
	{"no steps", func(w *api.HeatWorks) { w.Steps = nil }, api.OK},
	{"the largest", func(w *api.HeatWorks) { *w = largest() }, api.OK},
	{"widest bar", func(w *api.HeatWorks) { w.Bars[0] = rg(0, 1000) }, api.OK},
	{"hardest bar", func(w *api.HeatWorks) { w.Bars[1] = rg(1000, 1000) }, api.OK},
	{"nothing", func(w *api.HeatWorks) { *w = api.HeatWorks{} }, api.ErrMany},
	{"no bars", func(w *api.HeatWorks) { w.Bars = []api.Range{} }, api.ErrMany},
	{"too many bars", func(w *api.HeatWorks) { w.Bars = make([]api.Range, 7) }, api.ErrMany},
	{"too many steps", func(w *api.HeatWorks) { *w = largest(); w.Steps = append(w.Steps, w.Steps[0]) }, api.ErrMany},
	{"no ways", func(w *api.HeatWorks) { w.Steps[1].Ways = nil }, api.ErrMany},
	{"too many ways", func(w *api.HeatWorks) { *w = largest(); w.Steps[5].Ways = append(w.Steps[5].Ways, stairs(1)) }, api.ErrMany},
	{"no ways comes before a bar", func(w *api.HeatWorks) { w.Bars[0], w.Steps[1].Ways = rg(5, 4), nil }, api.ErrMany},
	{"no ways comes before a way", func(w *api.HeatWorks) { w.Steps[0].Ways[0], w.Steps[1].Ways = way(1, 5, 9), nil }, api.ErrMany},
	{"bar turned round", func(w *api.HeatWorks) { w.Bars[1] = rg(5, 4) }, api.ErrArg},
	{"bar below 0", func(w *api.HeatWorks) { w.Bars[0] = rg(-1, 4) }, api.ErrArg},
	{"bar too hard", func(w *api.HeatWorks) { w.Bars[1] = rg(4, 1001) }, api.ErrArg},
	{"bar far off", func(w *api.HeatWorks) { w.Bars[1] = rg(math.MinInt64, math.MaxInt64) }, api.ErrArg},
	{"a bar comes before a way", func(w *api.HeatWorks) { w.Bars[1], w.Steps[0].Ways[0] = rg(5, 4), way() }, api.ErrArg},
	{"way without kinks", func(w *api.HeatWorks) { w.Steps[1].Ways[0] = way() }, api.ErrMany},
	{"way with too many kinks", func(w *api.HeatWorks) { w.Steps[0].Ways[1] = stairs(13) }, api.ErrMany},
	{"way out of range", func(w *api.HeatWorks) { w.Steps[1].Ways[0] = way(0, 9, 8) }, api.ErrRange},
	{"way against the rule", func(w *api.HeatWorks) { w.Steps[0].Ways[1] = way(0, 5, 9, 4, 4, 9) }, api.ErrRule},
	{"the first way of a step", func(w *api.HeatWorks) {
		w.Steps[0].Ways[0], w.Steps[0].Ways[1] = way(0, 5, 9, 4, 4, 9), way(0, 9, 8)
	}, api.ErrRule},
	{"the first step", func(w *api.HeatWorks) { w.Steps[0].Ways[1], w.Steps[1].Ways[0] = way(1, 5, 9), way() }, api.ErrRange},
	{"the first step against the rule", func(w *api.HeatWorks) {
		w.Steps[0].Ways[1], w.Steps[1].Ways[0] = way(0, 5, 9, 4, 4, 9), way()
	}, api.ErrRule},
}

// P1.2, and that all functions with a works return its error before all others
func TestCheckWorks(t *testing.T) {
	for _, x := range worksCases {
		w := chapter()
		x.change(&w)
		if e := heat.CheckWorks(w); e != x.want {
			t.Errorf("%s: CheckWorks is %d, not %d", x.name, e, x.want)
		}
		if x.want == api.OK {
			continue
		}
		for name, got := range errorsOf(w, recipe(-1, 9, 9, 9), list(-1), rg(5, 4)) {
			if got != x.want {
				t.Errorf("%s: %s is %d, not %d", x.name, name, got, x.want)
			}
		}
	}
}

// errorsOf returns the error of each function with a works, or -1 if another result is not zero with an error.
func errorsOf(w api.HeatWorks, r api.HeatRecipe, history []int64, measured api.Range) map[string]api.Errno {
	all := map[string]api.Errno{}
	add := func(name string, e api.Errno, zero bool) {
		if e != api.OK && !zero {
			e = -1
		}
		all[name] = e
	}
	ranges, e := heat.Ranges(w, r)
	add("Ranges", e, len(ranges) == 0)
	add("CheckHistory", heat.CheckHistory(w, r, history), true)
	some, e := heat.History(w, r, measured)
	add("History", e, len(some) == 0)
	had, e := heat.Had(w, r, measured)
	add("Had", e, len(had) == 0)
	bars, e := heat.Bars(w, measured)
	add("Bars", e, len(bars) == 0)
	ways, e := heat.Ways(w, measured)
	add("Ways", e, len(ways) == 0)
	n, e := heat.Count(w, measured)
	add("Count", e, n == 0)
	at, left, e := heat.Ask(w, measured)
	add("Ask", e, at == 0 && left == 0)
	return all
}

// The errors of recipes, and their order.
func TestRecipeErrors(t *testing.T) {
	for _, x := range []struct {
		r    api.HeatRecipe
		want api.Errno
	}{
		{recipe(0, 0), api.ErrEqual},
		{recipe(0), api.ErrEqual},
		{recipe(0, 0, 0, 0), api.ErrEqual},
		{recipe(-1, 5), api.ErrEqual},
		{recipe(2, 9, 9, 9), api.ErrEqual},
		{recipe(2, 0, 0), api.ErrRange},
		{recipe(-1, 0, 0), api.ErrRange},
		{recipe(math.MaxInt, 0, 0), api.ErrRange},
		{recipe(0, 2, 0), api.ErrRange},
		{recipe(0, -1, 0), api.ErrRange},
		{recipe(0, 0, 1), api.ErrRange},
		{recipe(0, 0, math.MinInt), api.ErrRange},
	} {
		got := errorsOf(chapter(), x.r, list(-1), rg(5, 4))
		for _, name := range []string{"Ranges", "CheckHistory", "History", "Had"} {
			if got[name] != x.want {
				t.Errorf("%s of %v is %d, not %d", name, x.r, got[name], x.want)
			}
		}
	}
}

// The errors of what was measured.
func TestMeasuredErrors(t *testing.T) {
	for _, x := range []struct {
		measured api.Range
		want     api.Errno
	}{
		{rg(5, 4), api.ErrArg},
		{rg(-1, 500), api.ErrArg},
		{rg(0, 1001), api.ErrArg},
		{rg(1001, 1001), api.ErrArg},
		{rg(math.MinInt64, math.MaxInt64), api.ErrArg},
		{rg(math.MaxInt64, math.MinInt64), api.ErrArg},
		{rg(0, 1000), api.OK},
		{rg(300, 300), api.OK},
	} {
		got := errorsOf(chapter(), recipe(0, 0, 0), list(100, 400, 200), x.measured)
		for _, name := range []string{"History", "Had", "Bars", "Ways", "Count", "Ask"} {
			if got[name] != x.want {
				t.Errorf("%s with %v is %d, not %d", name, x.measured, got[name], x.want)
			}
		}
	}
}

// P1.3
func TestRanges(t *testing.T) {
	// the bar reaches the second kink of the first step with its Hi alone
	edge := chapter()
	edge.Bars[0].Hi = 180
	for _, x := range []struct {
		w    api.HeatWorks
		r    api.HeatRecipe
		want []api.Range
	}{
		{chapter(), recipe(0, 0, 0), []api.Range{rg(100, 170), rg(400, 500), rg(200, 400)}},
		{chapter(), recipe(1, 0, 0), []api.Range{rg(150, 300), rg(400, 600), rg(200, 480)}},
		{chapter(), recipe(0, 1, 0), []api.Range{rg(100, 170), rg(300, 650), rg(200, 480)}},
		{edge, recipe(0, 0, 0), []api.Range{rg(100, 180), rg(400, 600), rg(200, 480)}},
		{api.HeatWorks{Bars: []api.Range{rg(5, 6), rg(0, 1000)}}, recipe(1), []api.Range{rg(0, 1000)}},
		{largest(), recipe(5, 0, 1, 2, 3, 4, 0), []api.Range{rg(5, 995), rg(5, 11), rg(5, 11), rg(5, 11), rg(5, 11), rg(5, 11), rg(5, 11)}},
		{api.HeatWorks{Bars: []api.Range{rg(1000, 1000)}, Steps: []api.HeatStep{step(way(0, 3, 4, 1000, 5, 1000))}}, recipe(0, 0), []api.Range{rg(1000, 1000), rg(5, 1000)}},
	} {
		if got, e := heat.Ranges(x.w, x.r); !slices.Equal(got, x.want) || e != api.OK {
			t.Errorf("Ranges of %v is %v, %d, not %v", x.r, got, e, x.want)
		}
	}
}

// P1.4
func TestCheckHistory(t *testing.T) {
	for _, x := range []struct {
		r       api.HeatRecipe
		history []int64
		want    api.Errno
	}{
		{recipe(1, 0, 0), list(200, 560, 415), api.OK},
		{recipe(1, 0, 0), list(160, 560, 415), api.ErrRule},
		{recipe(1, 0, 0), list(180, 600, 480), api.OK},
		{recipe(1, 0, 0), list(179, 600, 480), api.ErrRule},
		{recipe(1, 0, 0), list(180, 449, 280), api.ErrRule},
		{recipe(1, 0, 0), list(150, 400, 200), api.OK},
		{recipe(1, 0, 0), list(149, 400, 200), api.ErrRule},
		{recipe(1, 0, 0), list(300, 450, 400), api.OK},
		{recipe(1, 0, 0), list(301, 450, 400), api.ErrRule},
		{recipe(1, 0, 0), list(160, 500, 401), api.ErrRule},
		{recipe(1, 0, 0), list(160, 500, 279), api.ErrRule},
		{recipe(0, 1, 0), list(100, 300, 200), api.OK},
		{recipe(0, 1, 0), list(100, 299, 200), api.ErrRule},
		{recipe(0, 1, 0), list(100, 650, 350), api.OK},
		{recipe(0, 1, 0), list(100, 651, 350), api.ErrRule},
		{recipe(0, 1, 0), list(100, 300), api.ErrEqual},
		{recipe(0, 1, 0), nil, api.ErrEqual},
		{recipe(0, 1, 0), list(-5, 1001, 0, 7), api.ErrEqual},
		{recipe(0, 1, 0), list(-5, 1001, 0), api.ErrRule},
		{recipe(0, 1, 0), list(math.MinInt64, math.MaxInt64, math.MinInt64), api.ErrRule},
		{recipe(0, 1, 0), list(100, math.MaxInt64, 350), api.ErrRule},
	} {
		if e := heat.CheckHistory(chapter(), x.r, x.history); e != x.want {
			t.Errorf("CheckHistory of %v, %v is %d, not %d", x.r, x.history, e, x.want)
		}
	}
	bars := api.HeatWorks{Bars: []api.Range{rg(5, 6)}}
	for hard, want := range map[int64]api.Errno{4: api.ErrRule, 5: api.OK, 6: api.OK, 7: api.ErrRule} {
		if e := heat.CheckHistory(bars, recipe(0), list(hard)); e != want {
			t.Errorf("CheckHistory of a bar, %d is %d, not %d", hard, e, want)
		}
	}
}

// hadCases are recipes of the works of the chapter, what was measured, and what Had returns.
var hadCases = []struct {
	r        api.HeatRecipe
	measured api.Range
	want     []api.Range
	e        api.Errno
}{
	{recipe(1, 0, 0), rg(410, 420), []api.Range{rg(180, 300), rg(550, 600), rg(410, 420)}, api.OK},
	{recipe(0, 0, 0), rg(410, 420), nil, api.ErrSoft},
	{recipe(0, 1, 0), rg(410, 420), []api.Range{rg(100, 170), rg(550, 650), rg(410, 420)}, api.OK},
	{recipe(1, 0, 0), rg(0, 1000), []api.Range{rg(150, 300), rg(400, 600), rg(200, 480)}, api.OK},
	{recipe(1, 0, 0), rg(0, 250), []api.Range{rg(150, 179), rg(400, 419), rg(200, 250)}, api.OK},
	{recipe(1, 0, 0), rg(350, 350), []api.Range{rg(150, 300), rg(420, 600), rg(350, 350)}, api.OK},
	{recipe(1, 0, 0), rg(349, 349), []api.Range{rg(150, 300), rg(420, 549), rg(349, 349)}, api.OK},
	{recipe(1, 0, 0), rg(480, 480), []api.Range{rg(180, 300), rg(550, 600), rg(480, 480)}, api.OK},
	{recipe(1, 0, 0), rg(200, 200), []api.Range{rg(150, 179), rg(400, 419), rg(200, 200)}, api.OK},
	{recipe(1, 0, 0), rg(481, 1000), nil, api.ErrSoft},
	{recipe(1, 0, 0), rg(0, 199), nil, api.ErrSoft},
}

// P1.4, P1.5
func TestHadAndHistory(t *testing.T) {
	for _, x := range hadCases {
		got, e := heat.Had(chapter(), x.r, x.measured)
		if !slices.Equal(got, x.want) || e != x.e {
			t.Errorf("Had of %v, %v is %v, %d, not %v, %d", x.r, x.measured, got, e, x.want, x.e)
		}
		h, e := heat.History(chapter(), x.r, x.measured)
		if e != x.e {
			t.Errorf("History of %v, %v is %d, not %d", x.r, x.measured, e, x.e)
		}
		if e != api.OK {
			continue
		}
		if e := heat.CheckHistory(chapter(), x.r, h); e != api.OK || h[2] < x.measured.Lo || h[2] > x.measured.Hi {
			t.Errorf("History of %v, %v is %v, of which CheckHistory says %d", x.r, x.measured, h, e)
		}
	}
	bars := api.HeatWorks{Bars: []api.Range{rg(5, 9)}}
	if got, e := heat.Had(bars, recipe(0), rg(8, 20)); !slices.Equal(got, []api.Range{rg(8, 9)}) || e != api.OK {
		t.Errorf("Had of a bar is %v, %d", got, e)
	}
	if h, e := heat.History(bars, recipe(0), rg(9, 20)); !slices.Equal(h, list(9)) || e != api.OK {
		t.Errorf("History of a bar is %v, %d", h, e)
	}
}

// makerCases are works, what was measured, and what Bars, Ways, Count and Ask return.
var makerCases = []struct {
	name     string
	w        api.HeatWorks
	measured api.Range
	bars     []int
	ways     [][]int
	count    int
	at, left int
}{
	{"the chapter's", chapter(), rg(410, 420), []int{0, 1}, [][]int{{0, 1}, {0}}, 3, -1, 2},
	{"all that there is", chapter(), rg(0, 1000), []int{0, 1}, [][]int{{0, 1}, {0}}, 4, -1, 2},
	{"its hardest", chapter(), rg(480, 480), []int{0, 1}, [][]int{{0, 1}, {0}}, 3, -1, 2},
	{"bars alone", api.HeatWorks{Bars: []api.Range{rg(5, 6), rg(9, 9), rg(6, 7)}}, rg(6, 6), []int{0, 2}, nil, 2, -1, 1},
	{"one bar", api.HeatWorks{Bars: []api.Range{rg(5, 6), rg(9, 9), rg(6, 7)}}, rg(8, 20), []int{1}, nil, 1, -1, 1},
	{"a step tells more than the bar", api.HeatWorks{
		Bars:  []api.Range{rg(5, 6)},
		Steps: []api.HeatStep{step(way(0, 1, 2), way(0, 2, 3), way(0, 3, 4)), step(stairs(5))},
	}, rg(2, 2), []int{0}, [][]int{{0, 1}, {0}}, 2, 0, 1},
	{"the second step tells most", api.HeatWorks{
		Bars: []api.Range{rg(5, 6), rg(20, 20)},
		Steps: []api.HeatStep{
			step(way(0, 1, 2), way(0, 50, 60)),
			step(way(0, 7, 7), way(0, 7, 8), way(0, 6, 7), way(0, 8, 9), way(0, 7, 9)),
		},
	}, rg(7, 7), []int{0, 1}, [][]int{{0, 1}, {0, 1, 2, 4}}, 16, 1, 4},
	{"a bar is more often than the others", api.HeatWorks{
		Bars:  []api.Range{rg(0, 9), rg(0, 0), rg(9, 9)},
		Steps: []api.HeatStep{step(way(0, 0, 0, 5, 1, 1), way(0, 1, 1), way(0, 0, 1))},
	}, rg(1, 1), []int{0, 1, 2}, [][]int{{0, 1, 2}}, 8, -1, 3},
}

// P1.6, P1.7, P1.8
func TestMakers(t *testing.T) {
	for _, x := range makerCases {
		bars, e1 := heat.Bars(x.w, x.measured)
		ways, e2 := heat.Ways(x.w, x.measured)
		n, e3 := heat.Count(x.w, x.measured)
		at, left, e4 := heat.Ask(x.w, x.measured)
		if !slices.Equal(bars, x.bars) || e1 != api.OK {
			t.Errorf("%s: Bars is %v, %d, not %v", x.name, bars, e1, x.bars)
		}
		if !slices.EqualFunc(ways, x.ways, slices.Equal[[]int]) || e2 != api.OK {
			t.Errorf("%s: Ways is %v, %d, not %v", x.name, ways, e2, x.ways)
		}
		if n != x.count || e3 != api.OK {
			t.Errorf("%s: Count is %d, %d, not %d", x.name, n, e3, x.count)
		}
		if at != x.at || left != x.left || e4 != api.OK {
			t.Errorf("%s: Ask is %d, %d, %d, not %d, %d", x.name, at, left, e4, x.at, x.left)
		}
	}
}

// P1.6, P1.7, P1.8
func TestNoMakers(t *testing.T) {
	for _, measured := range []api.Range{rg(481, 500), rg(0, 199), rg(1000, 1000)} {
		got := errorsOf(chapter(), recipe(0, 0, 0), list(100, 400, 200), measured)
		for name, want := range map[string]api.Errno{"Bars": api.ErrSoft, "Ways": api.ErrSoft, "Count": api.OK, "Ask": api.ErrSoft} {
			if got[name] != want {
				t.Errorf("%s with %v is %d, not %d", name, measured, got[name], want)
			}
		}
		if n, _ := heat.Count(chapter(), measured); n != 0 {
			t.Errorf("Count with %v is %d", measured, n)
		}
	}
}

// P1.7, P1.8, at the limits
func TestLargest(t *testing.T) {
	if n, e := heat.Count(largest(), rg(0, 1000)); n != 93750 || e != api.OK {
		t.Errorf("Count is %d, %d", n, e)
	}
	// the bars 0 to 2 alone have a hardness up to 2, which all ways keep
	bars, e := heat.Bars(largest(), rg(2, 2))
	if !slices.Equal(bars, []int{0, 1, 2}) || e != api.OK {
		t.Errorf("Bars is %v, %d", bars, e)
	}
	if at, left, e := heat.Ask(largest(), rg(2, 2)); at != 0 || left != 9375 || e != api.OK {
		t.Errorf("Ask is %d, %d, %d", at, left, e)
	}
	ways, e := heat.Ways(largest(), rg(2, 2))
	if !slices.EqualFunc(ways, slices.Repeat([][]int{{0, 1, 2, 3, 4}}, 6), slices.Equal[[]int]) || e != api.OK {
		t.Errorf("Ways is %v, %d", ways, e)
	}
}

// P1: all functions end, and do not panic, whatever is asked.
func TestAnything(t *testing.T) {
	numbers := []int64{math.MinInt64, -1, 0, 1, 999, 1000, 1001, math.MaxInt64}
	for _, a := range numbers {
		for _, b := range numbers {
			w := api.HeatWorks{Bars: []api.Range{rg(a, b)}, Steps: []api.HeatStep{step(way(0, 0, 0, a, b, b)), {}, step(way(a, a, b))}}
			for n := range 4 {
				v := api.HeatWorks{Bars: w.Bars, Steps: w.Steps[:n]}
				errorsOf(v, api.HeatRecipe{}, nil, api.Range{})
				errorsOf(v, recipe(int(a), int(b)), list(a, b), rg(a, b))
				errorsOf(v, recipe(0, 0), list(a, b), rg(b, a))
				errorsOf(v, recipe(0, 0, 0, 0), list(a, b, a, b), rg(0, 1000))
			}
			heat.After(way(a, b, b), a)
			heat.After(way(0, 0, b, a, a, b), b)
		}
	}
	errorsOf(api.HeatWorks{}, api.HeatRecipe{}, nil, api.Range{})
	errorsOf(api.HeatWorks{Bars: make([]api.Range, 1000), Steps: make([]api.HeatStep, 1000)}, api.HeatRecipe{Ways: make([]int, 1000)}, make([]int64, 1000), api.Range{})
}

// R3: nil and empty lists are the same.
func TestNilAndEmpty(t *testing.T) {
	none := api.HeatWorks{Bars: []api.Range{rg(5, 6)}}
	empty := api.HeatWorks{Bars: []api.Range{rg(5, 6)}, Steps: []api.HeatStep{}}
	for _, w := range []api.HeatWorks{none, empty} {
		for _, r := range []api.HeatRecipe{{}, {Ways: []int{}}} {
			for name, e := range errorsOf(w, r, list(5), rg(0, 9)) {
				if e != api.OK {
					t.Errorf("%s of %v, %v is %d", name, w, r, e)
				}
			}
		}
		if ways, e := heat.Ways(w, rg(0, 9)); len(ways) != 0 || e != api.OK {
			t.Errorf("Ways of %v is %v, %d", w, ways, e)
		}
	}
	for _, history := range [][]int64{nil, {}} {
		if e := heat.CheckHistory(none, recipe(0), history); e != api.ErrEqual {
			t.Errorf("CheckHistory of %v is %d", history, e)
		}
	}
}

// results returns what all functions say of a recipe of a works.
func results(w api.HeatWorks, r api.HeatRecipe, measured api.Range) []any {
	var all []any
	add := func(x ...any) { all = append(all, x...) }
	ranges, e := heat.Ranges(w, r)
	add(ranges, e)
	history, e := heat.History(w, r, measured)
	add(len(history), e)
	had, e := heat.Had(w, r, measured)
	add(had, e)
	bars, e := heat.Bars(w, measured)
	add(bars, e)
	ways, e := heat.Ways(w, measured)
	add(ways, e)
	n, e := heat.Count(w, measured)
	add(n, e)
	at, left, e := heat.Ask(w, measured)
	add(at, left, e)
	return all
}

// R4, R9, R10: arguments are not changed, and results belong to the caller alone.
func TestMemory(t *testing.T) {
	w, r, measured, history := chapter(), recipe(1, 0, 0), rg(410, 420), list(200, 560, 415)
	first := results(w, r, measured)
	spoil(w, r, measured)
	heat.CheckHistory(w, r, history)
	if !reflect.DeepEqual(w, chapter()) || !reflect.DeepEqual(r, recipe(1, 0, 0)) || !slices.Equal(history, list(200, 560, 415)) {
		t.Error("an argument was changed:", w, r, history)
	}
	results(largest(), recipe(0, 0, 0, 0, 0, 0, 0), rg(0, 3))
	results(chapter(), recipe(9), rg(3, 0))
	if again := results(w, r, measured); !reflect.DeepEqual(first, again) {
		t.Error("a second call returns something else:", first, again)
	}
	kept := results(w, r, measured)
	for i := range w.Bars {
		w.Bars[i] = rg(0, 0)
	}
	for _, s := range w.Steps {
		for _, way := range s.Ways {
			clear(way.Kinks)
		}
		clear(s.Ways)
	}
	clear(w.Steps)
	r.Ways[0] = 1
	if !reflect.DeepEqual(first, kept) {
		t.Error("a result changed with an argument:", first, kept)
	}
}

// spoil overwrites all results, with the room behind them.
func spoil(w api.HeatWorks, r api.HeatRecipe, measured api.Range) {
	ranges, _ := heat.Ranges(w, r)
	overwrite(ranges, rg(-7, -7))
	history, _ := heat.History(w, r, measured)
	overwrite(history, -7)
	had, _ := heat.Had(w, r, measured)
	overwrite(had, rg(-7, -7))
	bars, _ := heat.Bars(w, measured)
	overwrite(bars, -7)
	ways, _ := heat.Ways(w, measured)
	for _, x := range ways {
		overwrite(x, -7)
	}
}

func overwrite[T any](list []T, with T) {
	list = list[:cap(list)]
	for i := range list {
		list[i] = with
	}
}

// R4: no two lists of Ways share memory.
func TestWaysApart(t *testing.T) {
	ways, _ := heat.Ways(largest(), rg(0, 1000))
	for i := range ways {
		overwrite(ways[i], i)
	}
	for i, x := range ways {
		if !slices.Equal(x, slices.Repeat([]int{i}, 5)) {
			t.Errorf("the list of step %d was overwritten: %v", i, x)
		}
	}
}
