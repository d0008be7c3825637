package warp_test

import (
	"math"
	"reflect"
	"slices"
	"testing"

	"bolster/api"
	"bolster/warp"
)

func rg(lo, hi int64) api.Range { return api.Range{Lo: lo, Hi: hi} }

func list(x ...int64) []int64 { return x }

// blade returns a blade of stations that are given by four numbers each: Angle, the ends of Tol, and Hard.
func blade(most int64, x ...int64) api.WarpBlade {
	b := api.WarpBlade{Most: most}
	for i := 0; i < len(x); i += 4 {
		b.Stations = append(b.Stations, api.WarpStation{Angle: x[i], Tol: rg(x[i+1], x[i+2]), Hard: x[i+3]})
	}
	return b
}

// chapter returns the blade B of the chapter's examples, in new memory.
func chapter() api.WarpBlade {
	return blade(10, 0, -1, 1, 1, 4, -1, 1, 1, 5, -1, 1, 1, 1, -1, 1, 1)
}

// harder returns the blade H of the examples.
func harder() api.WarpBlade {
	b := chapter()
	b.Stations[1].Hard = 3
	return b
}

// crooked returns the blade C of the examples, which cannot be made straight.
func crooked() api.WarpBlade {
	b := chapter()
	b.Most = 1
	return b
}

// repeated returns a blade of the same station again and again.
func repeated(n int, most int64, s api.WarpStation) api.WarpBlade {
	return api.WarpBlade{Stations: slices.Repeat([]api.WarpStation{s}, n), Most: most}
}

// farthest returns a blade with as many stations as there can be, of which the last one alone has to be bent to.
func farthest(angle int64) api.WarpBlade {
	b := repeated(20, 1, api.WarpStation{Tol: rg(-100, 100), Hard: 1})
	b.Stations[19] = api.WarpStation{Angle: angle, Hard: 1}
	return b
}

// zigzag returns a blade with as many stations as there can be, turned as far as can be, to one side and to the other.
func zigzag(tol api.Range) api.WarpBlade {
	b := api.WarpBlade{Most: 200}
	for i := range int64(20) {
		b.Stations = append(b.Stations, api.WarpStation{Angle: 100 - i%2*200, Tol: tol, Hard: 1 + i%9})
	}
	return b
}

// bladeCases change the blade of the chapter, and tell what CheckBlade says of it then.
var bladeCases = []struct {
	name   string
	change func(b *api.WarpBlade)
	want   api.Errno
}{
	{"as it is", func(b *api.WarpBlade) {}, api.OK},
	{"one station", func(b *api.WarpBlade) { b.Stations = b.Stations[:1] }, api.OK},
	{"most stations", func(b *api.WarpBlade) { b.Stations = slices.Repeat(b.Stations, 5) }, api.OK},
	{"turned most", func(b *api.WarpBlade) { b.Stations[3] = api.WarpStation{Angle: 100, Tol: rg(-100, 100), Hard: 9} }, api.OK},
	{"turned most to the other side", func(b *api.WarpBlade) { b.Stations[0] = api.WarpStation{Angle: -100, Tol: rg(100, 100), Hard: 1} }, api.OK},
	{"Tol without 0", func(b *api.WarpBlade) { b.Stations[2].Tol = rg(-100, -100) }, api.OK},
	{"Most 0", func(b *api.WarpBlade) { b.Most = 0 }, api.OK},
	{"Most 200", func(b *api.WarpBlade) { b.Most = 200 }, api.OK},
	{"nothing", func(b *api.WarpBlade) { *b = api.WarpBlade{} }, api.ErrMany},
	{"empty stations", func(b *api.WarpBlade) { b.Stations = []api.WarpStation{} }, api.ErrMany},
	{"too many stations", func(b *api.WarpBlade) { b.Stations = slices.Repeat(b.Stations[:1], 21) }, api.ErrMany},
	{"too many comes before a station", func(b *api.WarpBlade) { b.Stations = make([]api.WarpStation, 21) }, api.ErrMany},
	{"too few comes before Most", func(b *api.WarpBlade) { b.Stations, b.Most = nil, -1 }, api.ErrMany},
	{"Angle too great", func(b *api.WarpBlade) { b.Stations[3].Angle = 101 }, api.ErrRange},
	{"Angle too little", func(b *api.WarpBlade) { b.Stations[0].Angle = -101 }, api.ErrRange},
	{"Angle far off", func(b *api.WarpBlade) { b.Stations[1].Angle = math.MinInt64 }, api.ErrRange},
	{"Tol turned round", func(b *api.WarpBlade) { b.Stations[2].Tol = rg(1, 0) }, api.ErrRange},
	{"Tol too low", func(b *api.WarpBlade) { b.Stations[2].Tol = rg(-101, 0) }, api.ErrRange},
	{"Tol too high", func(b *api.WarpBlade) { b.Stations[2].Tol = rg(0, 101) }, api.ErrRange},
	{"Tol far off", func(b *api.WarpBlade) { b.Stations[2].Tol = rg(math.MinInt64, math.MaxInt64) }, api.ErrRange},
	{"Tol far off on one side", func(b *api.WarpBlade) { b.Stations[2].Tol = rg(math.MaxInt64, math.MaxInt64) }, api.ErrRange},
	{"Hard 0", func(b *api.WarpBlade) { b.Stations[0].Hard = 0 }, api.ErrRange},
	{"Hard below 0", func(b *api.WarpBlade) { b.Stations[3].Hard = -1 }, api.ErrRange},
	{"Hard 10", func(b *api.WarpBlade) { b.Stations[3].Hard = 10 }, api.ErrRange},
	{"Hard far off", func(b *api.WarpBlade) { b.Stations[3].Hard = math.MaxInt64 }, api.ErrRange},
	{"a station comes before Most", func(b *api.WarpBlade) { b.Stations[3].Hard, b.Most = 10, 201 }, api.ErrRange},
	{"Most below 0", func(b *api.WarpBlade) { b.Most = -1 }, api.ErrArg},
	{"Most 201", func(b *api.WarpBlade) { b.Most = 201 }, api.ErrArg},
	{"Most least of all", func(b *api.WarpBlade) { b.Most = math.MinInt64 }, api.ErrArg},
	{"Most greatest of all", func(b *api.WarpBlade) { b.Most = math.MaxInt64 }, api.ErrArg},
}

// P2.1, and that all functions return the error of CheckBlade before all others
func TestCheckBlade(t *testing.T) {
	for _, x := range bladeCases {
		b := chapter()
		x.change(&b)
		if e := warp.CheckBlade(b); e != x.want {
			t.Errorf("%s: CheckBlade is %d, not %d", x.name, e, x.want)
		}
		if x.want == api.OK {
			continue
		}
		for name, got := range errorsOf(b, list(math.MinInt64), -1, math.MaxInt64) {
			if got != x.want {
				t.Errorf("%s: %s is %d, not %d", x.name, name, got, x.want)
			}
		}
	}
}

// errorsOf returns the error of each function but CheckBlade, or -1 if another result is not zero with an error. The numbers are both blows and pulls.
func errorsOf(b api.WarpBlade, numbers []int64, station int, blow int64) map[string]api.Errno {
	all := map[string]api.Errno{}
	add := func(name string, e api.Errno, zero bool) {
		if e != api.OK && !zero {
			e = -1
		}
		all[name] = e
	}
	turned, e := warp.After(b, numbers)
	add("After", e, len(turned) == 0)
	cost, e := warp.CheckBlows(b, numbers)
	add("CheckBlows", e, cost == 0)
	blows, cost, e := warp.Best(b)
	add("Best", e, len(blows) == 0 && cost == 0)
	earlier, later, e := warp.Clash(b)
	add("Clash", e, earlier == 0 && later == 0)
	bends, e := warp.Bends(b, station)
	add("Bends", e, bends == api.Range{})
	bound, e := warp.CheckPulls(b, numbers)
	add("CheckPulls", e, bound == 0)
	pulls, e := warp.Pulls(b)
	add("Pulls", e, len(pulls) == 0)
	span, e := warp.Span(b, station)
	add("Span", e, span == api.Range{})
	least, e := warp.Least(b, station, blow)
	add("Least", e, least == 0)
	return all
}

// P2.2
func TestAfter(t *testing.T) {
	for _, x := range []struct {
		b     api.WarpBlade
		blows []int64
		want  []int64
		e     api.Errno
	}{
		{chapter(), list(0, -3, -1, 2), list(0, 1, 1, -1), api.OK},
		{chapter(), list(0, 0, 0, 0), list(0, 4, 5, 1), api.OK},
		{chapter(), list(10, -10, 10, -10), list(10, 4, 15, 1), api.OK},
		{chapter(), list(10, 10, 10, 10), list(10, 24, 35, 41), api.OK},
		{chapter(), list(0, -3, -1), nil, api.ErrEqual},
		{chapter(), list(0, -3, -1, 2, 0), nil, api.ErrEqual},
		{chapter(), nil, nil, api.ErrEqual},
		{chapter(), list(11), nil, api.ErrEqual},
		{chapter(), list(11, 0, 0, 0), nil, api.ErrRange},
		{chapter(), list(0, 0, 0, -11), nil, api.ErrRange},
		{chapter(), list(0, 0, math.MinInt64, 0), nil, api.ErrRange},
		{chapter(), list(0, math.MaxInt64, 0, 0), nil, api.ErrRange},
		{crooked(), list(1, -1, 1, -1), list(1, 4, 6, 1), api.OK},
		{crooked(), list(1, -1, 2, -1), nil, api.ErrRange},
		{blade(0, 7, 0, 0, 1), list(0), list(7), api.OK},
		{blade(0, 7, 0, 0, 1), list(1), nil, api.ErrRange},
		{blade(0, 7, 0, 0, 1), list(-1), nil, api.ErrRange},
		{repeated(3, 200, api.WarpStation{Angle: 100, Hard: 1}), list(200, 200, 200), list(300, 500, 700), api.OK},
	} {
		if got, e := warp.After(x.b, x.blows); !slices.Equal(got, x.want) || e != x.e {
			t.Errorf("After of %v, %v is %v, %d, not %v, %d", x.b, x.blows, got, e, x.want, x.e)
		}
		cost, e := warp.CheckBlows(x.b, x.blows)
		if x.e != api.OK && (cost != 0 || e != x.e) {
			t.Errorf("CheckBlows of %v, %v is %d, %d, not %d", x.b, x.blows, cost, e, x.e)
		}
	}
}

// P2.3
func TestCheckBlows(t *testing.T) {
	for _, x := range []struct {
		b     api.WarpBlade
		blows []int64
		want  int64
		e     api.Errno
	}{
		{chapter(), list(0, -3, -1, 2), 6, api.OK},
		{chapter(), list(0, -3, 0, 0), 0, api.ErrWarp},
		{chapter(), list(0, -11, 0, 0), 0, api.ErrRange},
		{chapter(), list(1, -4, -1, 2), 8, api.OK},
		{chapter(), list(-1, -4, 1, 2), 8, api.OK},
		{chapter(), list(0, -2, -2, 2), 0, api.ErrWarp},
		{chapter(), list(0, -5, 0, 2), 0, api.ErrWarp},
		{chapter(), list(2, -5, -1, 2), 0, api.ErrWarp},
		{chapter(), list(0, -5, 0, 5), 10, api.OK},
		{chapter(), list(0, -5, 0, 6), 0, api.ErrWarp},
		{harder(), list(0, -3, -1, 2), 12, api.OK},
		{crooked(), list(0, -1, -1, 1), 0, api.ErrWarp},
		{blade(0, 7, -7, 7, 9), list(0), 0, api.OK},
		{blade(0, 8, -7, 7, 9), list(0), 0, api.ErrWarp},
	} {
		if got, e := warp.CheckBlows(x.b, x.blows); got != x.want || e != x.e {
			t.Errorf("CheckBlows of %v, %v is %d, %d, not %d, %d", x.b, x.blows, got, e, x.want, x.e)
		}
	}
}

// bestCases are blades, and what best blows of them cost.
var bestCases = []struct {
	b    api.WarpBlade
	want int64
	e    api.Errno
}{
	{chapter(), 6, api.OK},
	{harder(), 10, api.OK},
	{crooked(), 0, api.ErrWarp},
	{blade(0, 7, -7, 7, 9), 0, api.OK},
	{blade(0, 8, -7, 7, 9), 0, api.ErrWarp},
	{blade(200, 100, -100, -100, 9), 1800, api.OK},
	{blade(199, 100, -100, -100, 9), 0, api.ErrWarp},
	{blade(199, 100, -100, -99, 9), 1791, api.OK},
	{blade(200, 100, -100, -100, 9, -100, 100, 100, 9), 0, api.ErrWarp},
	{zigzag(rg(-100, 100)), 0, api.OK},
	{zigzag(rg(0, 0)), 100 + 200*(2+3+4+5+6+7+8+9+1+2+3+4+5+6+7+8+9+1+2), api.OK},
	{zigzag(rg(-1, 1)), 99 + 198*(2+3+4+5+6+7+8+9+1+2+3+4+5+6+7+8+9+1+2), api.OK},
	// what the second station needs is cheaper to do at the first one
	{blade(10, 0, -9, 9, 1, 5, 0, 0, 2), 5, api.OK},
	{blade(10, 0, -4, 9, 1, 5, 0, 0, 2), 6, api.OK},
	{blade(3, 0, -9, 9, 1, 5, 0, 0, 2), 7, api.OK},
}

// P2.4, P2.6
func TestBestAndPulls(t *testing.T) {
	for _, x := range bestCases {
		blows, cost, e := warp.Best(x.b)
		if cost != x.want || e != x.e {
			t.Errorf("Best of %v is %v, %d, %d, not %d, %d", x.b, blows, cost, e, x.want, x.e)
		}
		pulls, e := warp.Pulls(x.b)
		if e != x.e {
			t.Errorf("Pulls of %v is %v, %d, not %d", x.b, pulls, e, x.e)
		}
		if x.e != api.OK {
			if len(blows) != 0 || len(pulls) != 0 {
				t.Errorf("Best and Pulls of %v are %v and %v with an error", x.b, blows, pulls)
			}
			continue
		}
		if got, e := warp.CheckBlows(x.b, blows); got != x.want || e != api.OK {
			t.Errorf("the blows %v of %v cost %d, %d, not %d", blows, x.b, got, e, x.want)
		}
		if got, e := warp.CheckPulls(x.b, pulls); got != x.want || e != api.OK {
			t.Errorf("the pulls %v of %v have the bound %d, %d, not %d", pulls, x.b, got, e, x.want)
		}
	}
}

// P2.5
func TestClash(t *testing.T) {
	for _, x := range []struct {
		name           string
		b              api.WarpBlade
		earlier, later int
		e              api.Errno
	}{
		{"straight", chapter(), 0, 0, api.ErrNone},
		{"the chapter's", crooked(), -1, 1, api.OK},
		{"the beginning and the first one", blade(9, 10, 0, 0, 1), -1, 0, api.OK},
		{"to the other side", blade(9, -10, 0, 0, 1), -1, 0, api.OK},
		{"just not", blade(10, 10, 0, 0, 1), 0, 0, api.ErrNone},
		{"just not to the other side", blade(10, -10, 0, 0, 1), 0, 0, api.ErrNone},
		{"two stations", blade(5, 5, 0, 0, 1, -1, 0, 0, 1), 0, 1, api.OK},
		{"two stations, just not", blade(5, 4, 0, 0, 1, -1, 0, 0, 1), 0, 0, api.ErrNone},
		{"two stations, one between", blade(5, 5, 0, 0, 1, 0, -50, 50, 1, -6, 0, 0, 1), 0, 2, api.OK},
		{"two stations, one between, just not", blade(5, 5, 0, 0, 1, 0, -50, 50, 1, -5, 0, 0, 1), 0, 0, api.ErrNone},
		{"the beginning comes before stations", blade(5, 5, 0, 0, 1, -11, 0, 0, 1), -1, 1, api.OK},
		{"the last one of all, to the beginning", blade(1, 0, -9, 9, 1, 0, -9, 9, 1, 4, 0, 0, 1), -1, 2, api.OK},
		{"without blows", blade(0, 0, 0, 0, 1, 1, 0, 0, 1, 1, 0, 0, 1), -1, 1, api.OK},
		{"the earlier one decides first", blade(3, 0, 3, 3, 1, 0, -1, -1, 1, 0, 3, 3, 1), 0, 1, api.OK},
		{"two pairs with the same earlier one", blade(3, 0, 3, 3, 1, 0, 0, 5, 1, 0, -4, -4, 1, 0, -7, -7, 1), 0, 2, api.OK},
		{"the farthest ones", farthest(-21), -1, 19, api.OK},
		{"the farthest ones, to the other side", farthest(21), -1, 19, api.OK},
		{"the farthest ones, just not", farthest(-20), 0, 0, api.ErrNone},
	} {
		if earlier, later, e := warp.Clash(x.b); earlier != x.earlier || later != x.later || e != x.e {
			t.Errorf("%s: Clash is %d, %d, %d, not %d, %d, %d", x.name, earlier, later, e, x.earlier, x.later, x.e)
		}
	}
}

// nameErrors are names of stations of the chapter's blade, and what functions with one say of them.
var nameErrors = []struct {
	station int
	want    api.Errno
}{
	{-1, api.ErrRange}, {4, api.ErrRange}, {math.MinInt, api.ErrRange}, {math.MaxInt, api.ErrRange}, {0, api.OK}, {3, api.OK},
}

// The errors of names, which come before ErrWarp.
func TestNameErrors(t *testing.T) {
	for _, x := range nameErrors {
		good := errorsOf(chapter(), list(0, -3, -1, 2), x.station, 0)
		bad := errorsOf(crooked(), list(0, 0, 0, 0), x.station, 0)
		for _, name := range []string{"Bends", "Span"} {
			if good[name] != x.want {
				t.Errorf("%s at %d is %d, not %d", name, x.station, good[name], x.want)
			}
			want := x.want
			if want == api.OK {
				want = api.ErrWarp
			}
			if bad[name] != want {
				t.Errorf("%s at %d of a crooked blade is %d, not %d", name, x.station, bad[name], want)
			}
		}
	}
}

// P2.5
func TestBends(t *testing.T) {
	for _, x := range []struct {
		b    api.WarpBlade
		want []api.Range
	}{
		{chapter(), []api.Range{rg(-1, 1), rg(-5, -3), rg(-6, -4), rg(-2, 0)}},
		{harder(), []api.Range{rg(-1, 1), rg(-5, -3), rg(-6, -4), rg(-2, 0)}},
		{blade(2, 0, -9, 9, 1, 5, 1, 9, 1), []api.Range{rg(-2, 2), rg(-4, 4)}},
		{blade(2, 0, -9, 9, 1, 5, 0, 1, 1), []api.Range{rg(-2, -2), rg(-4, -4)}},
		{blade(2, 0, -9, 9, 1, 5, 0, 2, 1), []api.Range{rg(-2, -1), rg(-4, -3)}},
		{blade(0, 0, -9, 9, 1, 5, 0, 9, 1), []api.Range{rg(0, 0), rg(0, 0)}},
		{blade(200, 100, -100, 100, 1, -100, -100, 100, 1), []api.Range{rg(-200, 0), rg(0, 200)}},
	} {
		for i, want := range x.want {
			if got, e := warp.Bends(x.b, i); got != want || e != api.OK {
				t.Errorf("Bends of %v at %d is %v, %d, not %v", x.b, i, got, e, want)
			}
		}
	}
}

// P2.6
func TestCheckPulls(t *testing.T) {
	for _, x := range []struct {
		b     api.WarpBlade
		pulls []int64
		want  int64
		e     api.Errno
	}{
		{chapter(), list(0, 0, -2, 1), 6, api.OK},
		{chapter(), list(0, -1, 0, 0), 3, api.OK},
		{chapter(), list(0, 0, 0, 0), 0, api.OK},
		// strains 1 1 1 1, and 2 2 2 2
		{chapter(), list(0, 0, 0, 1), -2, api.OK},
		{chapter(), list(0, 0, 0, 2), -4 - 4*10, api.OK},
		// strains -100 -100 0 0, and 0 -100 0 0
		{chapter(), list(0, -100, 0, 0), 300 - 2*99*10, api.OK},
		{chapter(), list(100, -100, 0, 0), -100 + 300 - 99*10, api.OK},
		{harder(), list(0, -3, 0, 0), 9 - 2*10, api.OK},
		{harder(), list(2, -3, 0, 0), -2 + 9, api.OK},
		{crooked(), list(0, -100, 0, 0), 300 - 2*99, api.OK},
		{blade(0, 100, -100, -100, 9), list(-100), 20000, api.OK},
		{blade(0, 100, -100, -100, 9), list(100), -20000, api.OK},
		{blade(200, 100, -100, -99, 9), list(9), 9 * -200, api.OK},
		{blade(200, 100, -100, -99, 9), list(-9), 9 * 199, api.OK},
		{blade(200, 100, -100, -99, 9), list(-10), 10*199 - 200, api.OK},
		{chapter(), list(0, 0, -2), 0, api.ErrEqual},
		{chapter(), list(0, 0, -2, 1, 0), 0, api.ErrEqual},
		{chapter(), nil, 0, api.ErrEqual},
		{chapter(), list(101), 0, api.ErrEqual},
		{chapter(), list(101, 0, 0, 0), 0, api.ErrRange},
		{chapter(), list(0, 0, 0, -101), 0, api.ErrRange},
		{chapter(), list(0, math.MinInt64, 0, 0), 0, api.ErrRange},
		{chapter(), list(0, math.MaxInt64, 0, 0), 0, api.ErrRange},
	} {
		if got, e := warp.CheckPulls(x.b, x.pulls); got != x.want || e != x.e {
			t.Errorf("CheckPulls of %v, %v is %d, %d, not %d, %d", x.b, x.pulls, got, e, x.want, x.e)
		}
	}
}

// P2.7
func TestSpan(t *testing.T) {
	for _, x := range []struct {
		b    api.WarpBlade
		want []api.Range
	}{
		{chapter(), []api.Range{rg(-1, 0), rg(-4, -2), rg(-1, 0), rg(2, 2)}},
		{blade(10, 0, -9, 9, 1, 5, 0, 0, 2), []api.Range{rg(-5, -5), rg(0, 0)}},
		{blade(10, 0, -9, 9, 1, 5, 0, 0, 1), []api.Range{rg(-5, 0), rg(-5, 0)}},
		{blade(3, 0, -9, 9, 1, 5, 0, 0, 1), []api.Range{rg(-3, -2), rg(-3, -2)}},
		{blade(0, 0, -9, 9, 1), []api.Range{rg(0, 0)}},
		{blade(200, 100, -100, -100, 9), []api.Range{rg(-200, -200)}},
	} {
		for i, want := range x.want {
			if got, e := warp.Span(x.b, i); got != want || e != api.OK {
				t.Errorf("Span of %v at %d is %v, %d, not %v", x.b, i, got, e, want)
			}
		}
	}
}

// P2.8
func TestLeast(t *testing.T) {
	for _, x := range []struct {
		b       api.WarpBlade
		station int
		blow    int64
		want    int64
		e       api.Errno
	}{
		{chapter(), 0, 0, 6, api.OK},
		{chapter(), 0, 1, 8, api.OK},
		{chapter(), 0, -1, 6, api.OK},
		{chapter(), 0, 2, 0, api.ErrWarp},
		{chapter(), 0, 10, 0, api.ErrWarp},
		{chapter(), 0, -10, 0, api.ErrWarp},
		{chapter(), 0, 11, 0, api.ErrRange},
		{chapter(), 0, -11, 0, api.ErrRange},
		{chapter(), 0, math.MinInt64, 0, api.ErrRange},
		{chapter(), 0, math.MaxInt64, 0, api.ErrRange},
		{chapter(), -1, 0, 0, api.ErrRange},
		{chapter(), 4, 0, 0, api.ErrRange},
		{chapter(), math.MaxInt, 11, 0, api.ErrRange},
		{chapter(), 3, 2, 6, api.OK},
		{chapter(), 3, 6, 12, api.OK},
		{chapter(), 3, 7, 0, api.ErrWarp},
		{crooked(), 0, 0, 0, api.ErrWarp},
		{crooked(), 0, 2, 0, api.ErrRange},
		{crooked(), 4, 0, 0, api.ErrRange},
		{blade(0, 7, -7, 7, 9), 0, 0, 0, api.OK},
		{blade(0, 7, -7, 7, 9), 0, 1, 0, api.ErrRange},
	} {
		if got, e := warp.Least(x.b, x.station, x.blow); got != x.want || e != x.e {
			t.Errorf("Least of %v at %d, %d is %d, %d, not %d, %d", x.b, x.station, x.blow, got, e, x.want, x.e)
		}
	}
}

// R4, R9: no argument is changed, results share no memory, and equal calls return equal results.
func TestNothingShared(t *testing.T) {
	b, numbers := chapter(), list(0, -3, -1, 2)
	once := resultsOf(b, numbers)
	for _, result := range once {
		clear(result)
	}
	if !reflect.DeepEqual(b, chapter()) || !slices.Equal(numbers, list(0, -3, -1, 2)) {
		t.Errorf("the arguments became %v and %v", b, numbers)
	}
	again := resultsOf(b, numbers)
	if third := resultsOf(b, numbers); !reflect.DeepEqual(again, third) {
		t.Errorf("equal calls return %v and %v", again, third)
	}
	// room left behind the arguments is not written to
	roomy := append(make([]int64, 0, 9), numbers...)
	resultsOf(b, roomy)
	if !slices.Equal(roomy[:9], list(0, -3, -1, 2, 0, 0, 0, 0, 0)) {
		t.Errorf("the room behind an argument became %v", roomy[:9])
	}
}

// resultsOf returns the lists that functions return.
func resultsOf(b api.WarpBlade, numbers []int64) [][]int64 {
	turned, _ := warp.After(b, numbers)
	blows, _, _ := warp.Best(b)
	pulls, _ := warp.Pulls(b)
	return [][]int64{turned, blows, pulls}
}
