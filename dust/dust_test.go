package dust_test

import (
	"math"
	"reflect"
	"slices"
	"testing"

	"bolster/api"
	"bolster/dust"
)

func of(x ...int) []int          { return x }
func num(x ...int64) []int64     { return x }
func of2(x ...[]int64) [][]int64 { return x }

func ratio(num, den int64) api.Ratio { return api.Ratio{Num: num, Den: den} }

// shopOf returns a shop: its Dust, its First, and two numbers for each pair of Follows.
func shopOf(dust []int64, first []int, follows ...int) api.DustShop {
	s := api.DustShop{Dust: dust, First: first}
	for i := 0; i < len(follows); i += 2 {
		s.Follows = append(s.Follows, [2]int{follows[i], follows[i+1]})
	}
	return s
}

// chapter and lean return the shops S and T of the chapter's examples, in new memory.
func chapter() api.DustShop { return shopOf(num(30, 10, 0), of(2), 0, 0, 0, 1, 1, 2, 2, 0, 1, 1) }
func lean() api.DustShop    { return shopOf(num(30, 10, 0), of(2), 0, 1, 1, 2, 2, 0) }

// dead returns a shop whose plans have at most three works, and that has a work that is not reached, but goes on.
func dead() api.DustShop {
	return shopOf(num(5, 7, 2, 900), of(0), 0, 1, 1, 2, 0, 2, 3, 3, 3, 0)
}

// full returns a shop that has most of all: 10 works of the greatest Dust, and the first 6 works may follow each work.
func full() api.DustShop {
	s := shopOf(slices.Repeat(num(1000), 10), of(0, 1, 2, 3, 4, 5, 6, 7, 8, 9))
	for work := range 60 {
		s.Follows = append(s.Follows, [2]int{work / 6, work % 6})
	}
	return s
}

// ring returns a shop of 10 works one after another in a ring, of which the last one alone has Dust.
func ring() api.DustShop {
	s := shopOf(append(make([]int64, 9), 1000), of(0))
	for work := range 10 {
		s.Follows = append(s.Follows, [2]int{work, (work + 1) % 10})
	}
	return s
}

// shopCases change the shop S of the chapter, and tell what CheckShop says of it then.
var shopCases = []struct {
	name   string
	change func(s api.DustShop) api.DustShop
	want   api.Errno
}{
	{"as it is", func(s api.DustShop) api.DustShop { return s }, api.OK},
	{"most of all", func(s api.DustShop) api.DustShop { return full() }, api.OK},
	{"one work", func(s api.DustShop) api.DustShop { return shopOf(num(0), of(0)) }, api.OK},
	{"one work that follows itself", func(s api.DustShop) api.DustShop { return shopOf(num(1000), of(0), 0, 0) }, api.OK},
	{"no Follows", func(s api.DustShop) api.DustShop { s.Follows = nil; return s }, api.OK},
	{"empty Follows", func(s api.DustShop) api.DustShop { s.Follows = s.Follows[:0]; return s }, api.OK},
	{"the same pair the other way round", func(s api.DustShop) api.DustShop { s.Follows[0] = [2]int{1, 0}; return s }, api.OK},
	{"all works are first", func(s api.DustShop) api.DustShop { s.First = of(0, 1, 2); return s }, api.OK},
	{"no works", func(s api.DustShop) api.DustShop { return api.DustShop{} }, api.ErrMany},
	{"empty works", func(s api.DustShop) api.DustShop { s.Dust = s.Dust[:0]; return s }, api.ErrMany},
	{"too many works", func(s api.DustShop) api.DustShop { s.Dust = make([]int64, 11); return s }, api.ErrMany},
	{"far too many works", func(s api.DustShop) api.DustShop { s.Dust = make([]int64, 70000); return s }, api.ErrMany},
	{"too many Follows", func(s api.DustShop) api.DustShop { s = full(); s.Follows = append(s.Follows, [2]int{0, 9}); return s }, api.ErrMany},
	{"far too many Follows", func(s api.DustShop) api.DustShop { s.Follows = make([][2]int, 70000); return s }, api.ErrMany},
	{"too many works come before Dust below 0", func(s api.DustShop) api.DustShop { s.Dust = slices.Repeat(num(-1), 11); return s }, api.ErrMany},
	{"too many Follows come before Dust below 0", func(s api.DustShop) api.DustShop { s.Dust[0] = -1; s.Follows = make([][2]int, 61); return s }, api.ErrMany},
	{"Dust below 0", func(s api.DustShop) api.DustShop { s.Dust[0] = -1; return s }, api.ErrRange},
	{"Dust too great", func(s api.DustShop) api.DustShop { s.Dust[2] = 1001; return s }, api.ErrRange},
	{"Dust far off", func(s api.DustShop) api.DustShop { s.Dust[1] = math.MaxInt64; return s }, api.ErrRange},
	{"Dust far below 0", func(s api.DustShop) api.DustShop { s.Dust[1] = math.MinInt64; return s }, api.ErrRange},
	{"Dust comes before Follows", func(s api.DustShop) api.DustShop { s.Dust[1] = 1001; s.Follows[0][0] = 3; return s }, api.ErrRange},
	{"Dust comes before First", func(s api.DustShop) api.DustShop { s.Dust[1] = 1001; s.First = nil; return s }, api.ErrRange},
	{"a pair of what is no work", func(s api.DustShop) api.DustShop { s.Follows[4][0] = 3; return s }, api.ErrArg},
	{"a pair with what is no work", func(s api.DustShop) api.DustShop { s.Follows[4][1] = 3; return s }, api.ErrArg},
	{"a pair of a work below 0", func(s api.DustShop) api.DustShop { s.Follows[0][0] = -1; return s }, api.ErrArg},
	{"a pair with a work below 0", func(s api.DustShop) api.DustShop { s.Follows[0][1] = -1; return s }, api.ErrArg},
	{"a pair far off", func(s api.DustShop) api.DustShop { s.Follows[0] = [2]int{math.MaxInt, math.MinInt}; return s }, api.ErrArg},
	{"a pair twice", func(s api.DustShop) api.DustShop { s.Follows[4] = s.Follows[0]; return s }, api.ErrArg},
	{"the last two pairs are the same", func(s api.DustShop) api.DustShop { s.Follows[3] = s.Follows[4]; return s }, api.ErrArg},
	{"no First", func(s api.DustShop) api.DustShop { s.First = nil; return s }, api.ErrArg},
	{"an empty First", func(s api.DustShop) api.DustShop { s.First = of(); return s }, api.ErrArg},
	{"First is no work", func(s api.DustShop) api.DustShop { s.First = of(0, 3); return s }, api.ErrArg},
	{"First is below 0", func(s api.DustShop) api.DustShop { s.First = of(-1, 0); return s }, api.ErrArg},
	{"First is far off", func(s api.DustShop) api.DustShop { s.First = of(math.MinInt, math.MaxInt); return s }, api.ErrArg},
	{"First decreases", func(s api.DustShop) api.DustShop { s.First = of(1, 0); return s }, api.ErrArg},
	{"First has a work twice", func(s api.DustShop) api.DustShop { s.First = of(0, 1, 1); return s }, api.ErrArg},
	{"First is far too long", func(s api.DustShop) api.DustShop { s.First = make([]int, 70000); return s }, api.ErrArg},
}

// P9.1, and that all functions return the error of CheckShop before all others
func TestCheckShop(t *testing.T) {
	for _, x := range shopCases {
		s := x.change(chapter())
		if err := dust.CheckShop(s); err != x.want {
			t.Errorf("%s: CheckShop is %d, not %d", x.name, err, x.want)
		}
		if x.want == api.OK {
			continue
		}
		for function, got := range errorsOf(s, nil, 0, nil, -1, ratio(0, 0), nil) {
			if got != x.want {
				t.Errorf("%s: %s is %d, not %d", x.name, function, got, x.want)
			}
		}
	}
}

// errorsOf returns the error of each function but CheckShop, or -1 if another result is not zero with an error. The list is one for CheckPlan and for CheckRun.
func errorsOf(s api.DustShop, list []int, hours int, tops [][]int64, limit int64, bound api.Ratio, levels []int64) map[string]api.Errno {
	all := map[string]api.Errno{}
	add := func(function string, err api.Errno, zero bool) {
		if err != api.OK && !zero {
			err = -1
		}
		all[function] = err
	}
	reached, err := dust.Reached(s)
	add("Reached", err, len(reached) == 0)
	sum, err := dust.CheckPlan(s, list)
	add("CheckPlan", err, sum == 0)
	sum, err = dust.CheckRun(s, list)
	add("CheckRun", err, sum == 0)
	most, run, err := dust.Window(s, hours)
	add("Window", err, most == 0 && len(run) == 0)
	most, err = dust.CheckTops(s, tops)
	add("CheckTops", err, most == 0)
	made, err := dust.Tops(s, hours)
	add("Tops", err, len(made) == 0)
	add("Safe", dust.Safe(s, hours, limit), true)
	begins, err := dust.Begins(s, hours, limit)
	add("Begins", err, len(begins) == 0)
	mean, round, err := dust.Mean(s)
	add("Mean", err, mean == api.Ratio{} && len(round) == 0)
	add("CheckLevels", dust.CheckLevels(s, bound, levels), true)
	proof, err := dust.Levels(s)
	add("Levels", err, len(proof) == 0)
	return all
}

// Functions with hours return ErrArg if these are too few or too many, before their own errors.
func TestNoHours(t *testing.T) {
	for _, s := range []api.DustShop{chapter(), dead()} {
		for _, hours := range of(0, -1, 25, math.MaxInt, math.MinInt) {
			all := errorsOf(s, of(0), hours, nil, -1, ratio(0, 1), nil)
			for _, function := range []string{"Window", "Tops", "Safe", "Begins"} {
				if all[function] != api.ErrArg {
					t.Errorf("%s of %d hours is %d", function, hours, all[function])
				}
			}
		}
	}
	for function, err := range errorsOf(chapter(), of(2), 24, of2(num(30, 10, 0)), 720, ratio(30, 1), num(0, 0, 0)) {
		if err != api.OK {
			t.Errorf("%s of 24 hours is %d", function, err)
		}
	}
}

// Each function with a valid shop returns its own error, with nothing beside it.
func TestErrorsAlone(t *testing.T) {
	for _, x := range []struct {
		name   string
		s      api.DustShop
		list   []int
		hours  int
		tops   [][]int64
		limit  int64
		bound  api.Ratio
		levels []int64
		want   map[string]api.Errno
	}{
		{"nothing is wrong", lean(), of(2, 0), 2, of2(num(30, 10, 0)), 40, ratio(40, 3), num(50, 0, 10), nil},
		{"all is wrong", dead(), of(1, 0), 4, of2(num(5, 7, 1, 900)), -1, ratio(-1, 1), nil, map[string]api.Errno{
			"CheckPlan": api.ErrRule, "CheckRun": api.ErrRule, "Window": api.ErrNone, "CheckTops": api.ErrSum, "Tops": api.ErrNone,
			"Mean": api.ErrNone, "CheckLevels": api.ErrArg, "Levels": api.ErrNone,
		}},
		{"lists of nothing", dead(), nil, 3, nil, 13, ratio(0, 1), nil, map[string]api.Errno{
			"CheckPlan": api.ErrMany, "CheckRun": api.ErrMany, "CheckTops": api.ErrArg, "Safe": api.ErrDust,
			"Mean": api.ErrNone, "CheckLevels": api.ErrEqual, "Levels": api.ErrNone,
		}},
		{"numbers far off", lean(), of(3), 1, of2(num(30, 10, math.MaxInt64)), math.MinInt64, ratio(0, 1), num(0, math.MinInt64, 0), map[string]api.Errno{
			"CheckPlan": api.ErrRange, "CheckRun": api.ErrRange, "CheckTops": api.ErrRange, "Safe": api.ErrDust, "CheckLevels": api.ErrRange,
		}},
		{"what proves nothing", lean(), of(0), 24, of2(num(30, 10, 0), num(40, 10, 29)), math.MaxInt64, ratio(13, 1), num(17, 0, 3), map[string]api.Errno{
			"CheckPlan": api.ErrRule, "CheckTops": api.ErrSum, "CheckLevels": api.ErrSum,
		}},
		{"lists that are not equal", lean(), of(2), 24, of2(num(30, 10), num(0, 0, 0, 0)), math.MaxInt64, ratio(13, 1), num(17, 0), map[string]api.Errno{
			"CheckTops": api.ErrEqual, "CheckLevels": api.ErrEqual,
		}},
	} {
		for function, got := range errorsOf(x.s, x.list, x.hours, x.tops, x.limit, x.bound, x.levels) {
			if got != x.want[function] {
				t.Errorf("%s: %s is %d, not %d", x.name, function, got, x.want[function])
			}
		}
	}
}

// P9.1 (Reached)
func TestReached(t *testing.T) {
	for _, x := range []struct {
		name string
		s    api.DustShop
		want []int
	}{
		{"of the chapter", chapter(), of(0, 1, 2)},
		{"one work", shopOf(num(3), of(0)), of(0)},
		{"a work that leads to others, but is not reached", dead(), of(0, 1, 2)},
		{"that work is first", shopOf(num(5, 7, 2, 900), of(3), 0, 1, 1, 2, 0, 2, 3, 3, 3, 0), of(0, 1, 2, 3)},
		{"no Follows", shopOf(num(1, 2, 3), of(0, 2)), of(0, 2)},
		{"two that lead to each other, and are not reached", shopOf(num(1, 2, 3), of(1), 0, 2, 2, 0, 0, 1), of(1)},
		{"through all others, back", shopOf(make([]int64, 10), of(9), 1, 0, 2, 1, 3, 2, 4, 3, 5, 4, 6, 5, 7, 6, 8, 7, 9, 8), of(0, 1, 2, 3, 4, 5, 6, 7, 8, 9)},
		{"through all others, on", ring(), of(0, 1, 2, 3, 4, 5, 6, 7, 8, 9)},
		{"from two sides", shopOf(make([]int64, 6), of(0, 3), 0, 1, 3, 4, 5, 2), of(0, 1, 3, 4)},
	} {
		if got, err := dust.Reached(x.s); !slices.Equal(got, x.want) || err != api.OK {
			t.Errorf("%s: Reached is %v, %d, not %v", x.name, got, err, x.want)
		}
	}
}

// P9.2
func TestCheckLists(t *testing.T) {
	for _, x := range []struct {
		name        string
		s           api.DustShop
		list        []int
		sum         int64
		plan, isRun api.Errno
	}{
		{"of the chapter: 2 0 0 1", chapter(), of(2, 0, 0, 1), 70, api.OK, api.OK},
		{"of the chapter: 0 1", chapter(), of(0, 1), 40, api.ErrRule, api.OK},
		{"one work", chapter(), of(2), 0, api.OK, api.OK},
		{"one work that is not first", chapter(), of(0), 30, api.ErrRule, api.OK},
		{"one work that is not reached", dead(), of(3), 900, api.ErrRule, api.ErrRule},
		{"works that are not reached", dead(), of(3, 3, 0), 0, api.ErrRule, api.ErrRule},
		{"a work that may not follow", chapter(), of(2, 1), 0, api.ErrRule, api.ErrRule},
		{"a work that may not follow at the end", chapter(), of(2, 0, 1, 2, 0, 0, 1, 0), 0, api.ErrRule, api.ErrRule},
		{"a pair the other way round", chapter(), of(2, 0, 2), 0, api.ErrRule, api.ErrRule},
		{"a work that may not follow itself", lean(), of(2, 0, 0), 0, api.ErrRule, api.ErrRule},
		{"up to the end", dead(), of(0, 1, 2), 14, api.OK, api.OK},
		{"a run from the middle", dead(), of(1, 2), 9, api.ErrRule, api.OK},
		{"most works", full(), make([]int, 100), 100000, api.OK, api.OK},
		{"too many works", full(), make([]int, 101), 0, api.ErrMany, api.ErrMany},
		{"far too many works", full(), make([]int, 70000), 0, api.ErrMany, api.ErrMany},
		{"nothing", chapter(), nil, 0, api.ErrMany, api.ErrMany},
		{"an empty list", chapter(), of(), 0, api.ErrMany, api.ErrMany},
		{"too many come before what is no work", chapter(), slices.Repeat(of(3), 101), 0, api.ErrMany, api.ErrMany},
		{"no work", chapter(), of(2, 3), 0, api.ErrRange, api.ErrRange},
		{"no work below 0", chapter(), of(-1), 0, api.ErrRange, api.ErrRange},
		{"no work, far off", chapter(), of(2, 0, math.MaxInt), 0, api.ErrRange, api.ErrRange},
		{"no work, far below 0", chapter(), of(math.MinInt), 0, api.ErrRange, api.ErrRange},
		{"no work comes before one that may not follow", chapter(), of(2, 1, 3), 0, api.ErrRange, api.ErrRange},
	} {
		sum := func(err api.Errno) int64 {
			if err != api.OK {
				return 0
			}
			return x.sum
		}
		if got, err := dust.CheckPlan(x.s, x.list); got != sum(x.plan) || err != x.plan {
			t.Errorf("%s: CheckPlan is %d, %d, not %d, %d", x.name, got, err, sum(x.plan), x.plan)
		}
		if got, err := dust.CheckRun(x.s, x.list); got != sum(x.isRun) || err != x.isRun {
			t.Errorf("%s: CheckRun is %d, %d, not %d, %d", x.name, got, err, sum(x.isRun), x.isRun)
		}
	}
}

// P9.3, P9.4 (Tops)
func TestWindow(t *testing.T) {
	for _, x := range []struct {
		name  string
		s     api.DustShop
		hours int
		want  int64
		runs  [][]int // one of which is returned; nil if it is not said which
		err   api.Errno
	}{
		{"of the chapter: 1", lean(), 1, 30, [][]int{{0}}, api.OK},
		{"of the chapter: 2", lean(), 2, 40, [][]int{{0, 1}}, api.OK},
		{"of the chapter: 3", lean(), 3, 40, [][]int{{0, 1, 2}, {1, 2, 0}, {2, 0, 1}}, api.OK},
		{"of the chapter: 4", lean(), 4, 70, [][]int{{0, 1, 2, 0}}, api.OK},
		{"of the chapter: S", chapter(), 3, 90, [][]int{{0, 0, 0}}, api.OK},
		{"most hours", chapter(), 24, 720, [][]int{make([]int, 24)}, api.OK},
		{"most of all", full(), 24, 24000, nil, api.OK},
		{"a work that is not reached has most", dead(), 1, 7, [][]int{{1}}, api.OK},
		{"a run that begins late", dead(), 2, 12, [][]int{{0, 1}}, api.OK},
		{"the longest run", dead(), 3, 14, [][]int{{0, 1, 2}}, api.OK},
		{"no run is so long, but of works that are not reached", dead(), 4, 0, nil, api.ErrNone},
		{"no run is so long by far", dead(), 24, 0, nil, api.ErrNone},
		{"one work, one hour", shopOf(num(9), of(0)), 1, 9, [][]int{{0}}, api.OK},
		{"one work, two hours", shopOf(num(9), of(0)), 2, 0, nil, api.ErrNone},
		{"no dust", shopOf(num(0, 0), of(0), 0, 1), 2, 0, [][]int{{0, 1}}, api.OK},
		{"no dust at all", shopOf(num(0), of(0), 0, 0), 24, 0, [][]int{make([]int, 24)}, api.OK},
		{"less at first for more behind", shopOf(num(5, 9, 0, 20), of(0, 1), 1, 2, 0, 3, 2, 2, 3, 2), 2, 25, [][]int{{0, 3}}, api.OK},
		{"the work of most dust ends a run", shopOf(num(5, 1000), of(0), 0, 0, 0, 1), 5, 1020, [][]int{{0, 0, 0, 0, 1}}, api.OK},
		{"round a ring, three times the same work", ring(), 22, 3000, nil, api.OK},
		{"round a ring, twice the same work", ring(), 20, 2000, nil, api.OK},
	} {
		most, run, err := dust.Window(x.s, x.hours)
		if most != x.want || err != x.err {
			t.Errorf("%s: Window is %d, %d, not %d, %d", x.name, most, err, x.want, x.err)
		}
		if x.runs != nil && !slices.ContainsFunc(x.runs, func(r []int) bool { return slices.Equal(r, run) }) {
			t.Errorf("%s: Window is %v, not one of %v", x.name, run, x.runs)
		}
		if sum, e := dust.CheckRun(x.s, run); err == api.OK && (len(run) != x.hours || sum != most || e != api.OK) {
			t.Errorf("%s: Window is %d, but %v has %d, %d", x.name, most, run, sum, e)
		}
		tops, err := dust.Tops(x.s, x.hours)
		if err != x.err {
			t.Errorf("%s: Tops is %d, not %d", x.name, err, x.err)
		}
		if bound, e := dust.CheckTops(x.s, tops); err == api.OK && (len(tops) != x.hours || bound != most || e != api.OK) {
			t.Errorf("%s: Window is %d, but CheckTops of %v is %d, %d", x.name, most, tops, bound, e)
		}
	}
}

// P9.4 (CheckTops)
func TestCheckTops(t *testing.T) {
	one, two := num(30, 10, 0), num(40, 10, 30)
	for _, x := range []struct {
		name string
		s    api.DustShop
		tops [][]int64
		want int64
		err  api.Errno
	}{
		{"of the chapter", lean(), of2(one, two), 40, api.OK},
		{"of the chapter: one less", lean(), of2(one, num(40, 10, 29)), 0, api.ErrSum},
		{"one list", lean(), of2(one), 30, api.OK},
		{"one list: one less", lean(), of2(num(30, 9, 0)), 0, api.ErrSum},
		{"one list: greater ones", lean(), of2(num(31, 10, 77)), 77, api.OK},
		{"one list: -1", lean(), of2(num(30, 10, -1)), 0, api.ErrSum},
		{"the second list: -1", lean(), of2(one, num(40, -1, 30)), 0, api.ErrSum},
		{"the second list, from a greater first one", lean(), of2(num(30, 10, 5), num(40, 14, 30)), 0, api.ErrSum},
		{"the second list with a greater first one", lean(), of2(num(30, 10, 5), num(40, 15, 30)), 40, api.OK},
		{"a number would have to be greater than the greatest", lean(), of2(num(1000000, 10, 0), num(40, 10, 1000000), num(40, 1000000, 1000000)), 0, api.ErrSum},
		{"a greater number in a list before", shopOf(num(5), of(0)), of2(num(9), num(3)), 3, api.OK},
		{"a greater number of a work that is not reached", shopOf(num(0, 0), of(0), 0, 0), of2(num(0, 1000000), num(0, 3)), 0, api.OK},
		{"the greatest number", lean(), of2(num(1000000, 1000000, 1000000)), 1000000, api.OK},
		{"a work that may follow itself", chapter(), of2(one, num(59, 20, 30)), 0, api.ErrSum},
		{"just so for a work that may follow itself", chapter(), of2(one, num(60, 20, 30)), 60, api.OK},
		{"no run is so long", dead(), of2(num(5, 7, 2, 900), num(12, 9, -1, 1800), num(14, -1, -1, 2700), num(-1, -1, -1, 3600)), -1, api.OK},
		{"no run is so long, but a number is above", dead(), of2(num(5, 7, 2, 900), num(12, 9, 0, 1800)), 12, api.OK},
		{"a number above -1 behind", dead(), of2(num(5, 7, 2, 900), num(12, 9, 0, 1800), num(14, 6, -1, 2700)), 0, api.ErrSum},
		{"a work that is not reached counts for being right", dead(), of2(num(5, 7, 2, 899)), 0, api.ErrSum},
		{"a work that is not reached counts later", dead(), of2(num(5, 7, 2, 900), num(12, 9, -1, 1799)), 0, api.ErrSum},
		{"a work that is not reached does not count for the bound", dead(), of2(num(5, 7, 2, 900), num(12, 9, -1, 1800)), 12, api.OK},
		{"most lists", full(), zeros(24), 0, api.ErrSum},
		{"most lists that are right", shopOf(num(0), of(0), 0, 0), slices.Repeat(of2(num(0)), 24), 0, api.OK},
		{"too many lists", shopOf(num(0), of(0), 0, 0), slices.Repeat(of2(num(0)), 25), 0, api.ErrArg},
		{"far too many lists", chapter(), make([][]int64, 70000), 0, api.ErrArg},
		{"nothing", chapter(), nil, 0, api.ErrArg},
		{"an empty list of lists", chapter(), [][]int64{}, 0, api.ErrArg},
		{"too many lists come before one that is too short", chapter(), make([][]int64, 25), 0, api.ErrArg},
		{"a list of nothing", lean(), of2(one, nil), 0, api.ErrEqual},
		{"too short", lean(), of2(one, num(40, 10)), 0, api.ErrEqual},
		{"too long", lean(), of2(num(30, 10, 0, 0), two), 0, api.ErrEqual},
		{"far too long", lean(), of2(one, make([]int64, 70000)), 0, api.ErrEqual},
		{"too short comes before a number that is wrong", lean(), of2(num(-2, 10, 0), num(40, 10)), 0, api.ErrEqual},
		{"below -1", lean(), of2(one, num(40, 10, -2)), 0, api.ErrRange},
		{"too great", lean(), of2(num(1000001, 10, 0), two), 0, api.ErrRange},
		{"far off", lean(), of2(one, num(40, math.MaxInt64, 30)), 0, api.ErrRange},
		{"far below -1", lean(), of2(one, num(40, math.MinInt64, 30)), 0, api.ErrRange},
		{"a number that is wrong comes before what is not right", lean(), of2(num(0, 0, 0), num(40, 10, -2)), 0, api.ErrRange},
	} {
		if got, err := dust.CheckTops(x.s, x.tops); got != x.want || err != x.err {
			t.Errorf("%s: CheckTops is %d, %d, not %d, %d", x.name, got, err, x.want, x.err)
		}
	}
}

// zeros returns so many lists of 10 zeros.
func zeros(lists int) [][]int64 { return slices.Repeat(of2(make([]int64, 10)), lists) }

// P9.5
func TestSafe(t *testing.T) {
	for _, x := range []struct {
		name  string
		s     api.DustShop
		hours int
		limit int64
		want  []int
	}{
		{"of the chapter: 40", lean(), 2, 40, nil},
		{"of the chapter: 39", lean(), 2, 39, of(0)},
		{"of the chapter: 30", lean(), 2, 30, of(0)},
		{"29: one less", lean(), 2, 29, of(0, 2)},
		{"9: one less", lean(), 2, 9, of(0, 1, 2)},
		{"one hour, 0", lean(), 1, 0, of(0, 1)},
		{"one hour, -1", lean(), 1, -1, of(0, 1, 2)},
		{"the least limit", lean(), 5, math.MinInt64, of(0, 1, 2)},
		{"the greatest limit", lean(), 5, math.MaxInt64, nil},
		{"a work that is not reached", dead(), 1, 6, of(1)},
		{"runs that end", dead(), 2, 0, of(0, 1)},
		{"runs that end, and a limit below 0", dead(), 2, -1, of(0, 1)},
		{"runs that end, and a limit far below 0", dead(), 3, math.MinInt64, of(0)},
		{"no such runs, and a limit below 0", dead(), 4, -1, nil},
		{"no such runs, and a limit far below 0", dead(), 4, -2, nil},
		{"no such runs, and the least limit", dead(), 24, math.MinInt64, nil},
		{"most of all", full(), 24, 23999, of(0, 1, 2, 3, 4, 5, 6, 7, 8, 9)},
		{"no more than most of all", full(), 24, 24000, nil},
	} {
		if got, err := dust.Begins(x.s, x.hours, x.limit); !slices.Equal(got, x.want) || err != api.OK {
			t.Errorf("%s: Begins is %v, %d, not %v", x.name, got, err, x.want)
		}
		want := api.OK
		if len(x.want) > 0 {
			want = api.ErrDust
		}
		if err := dust.Safe(x.s, x.hours, x.limit); err != want {
			t.Errorf("%s: Safe is %d, not %d", x.name, err, want)
		}
	}
}

// P9.6, P9.7 (Levels)
func TestMean(t *testing.T) {
	for _, x := range []struct {
		name  string
		s     api.DustShop
		want  api.Ratio
		works []int // of the round, increasing; nil if it is not said which
		err   api.Errno
	}{
		{"of the chapter: T", lean(), ratio(40, 3), of(0, 1, 2), api.OK},
		{"of the chapter: S", chapter(), ratio(30, 1), of(0), api.OK},
		{"a round that is not reached", dead(), ratio(0, 0), nil, api.ErrNone},
		{"no Follows", shopOf(num(9, 9), of(0, 1)), ratio(0, 0), nil, api.ErrNone},
		{"no round, but all works lead on", shopOf(num(1, 2, 3), of(0), 0, 1, 0, 2, 1, 2), ratio(0, 0), nil, api.ErrNone},
		{"no dust", shopOf(num(0), of(0), 0, 0), ratio(0, 1), of(0), api.OK},
		{"no dust in a round of two", shopOf(num(0, 0), of(0), 0, 1, 1, 0), ratio(0, 1), of(0, 1), api.OK},
		{"in least terms, whole", shopOf(num(3, 5), of(0), 0, 1, 1, 0), ratio(4, 1), of(0, 1), api.OK},
		{"in least terms, halves", shopOf(num(3, 5, 7, 11), of(0), 0, 1, 1, 2, 2, 3, 3, 0), ratio(13, 2), of(0, 1, 2, 3), api.OK},
		{"a round is in between", shopOf(num(90, 2, 4, 90), of(0), 0, 1, 1, 2, 2, 1, 2, 3), ratio(3, 1), of(1, 2), api.OK},
		{"a greater sum, but a less mean", shopOf(num(9, 8, 8, 10), of(0), 0, 1, 1, 2, 2, 0, 2, 3, 3, 3), ratio(10, 1), of(3), api.OK},
		{"two rounds with a work together", shopOf(num(6, 10, 0, 5), of(2), 0, 1, 1, 0, 1, 2, 2, 3, 3, 1), ratio(8, 1), of(0, 1), api.OK},
		{"a round of less mean comes first", shopOf(num(1, 0, 2, 3), of(0), 0, 0, 0, 1, 1, 2, 2, 3, 3, 2), ratio(5, 2), of(2, 3), api.OK},
		{"the greatest mean is not reached", shopOf(num(1, 999, 3), of(0), 0, 0, 1, 1, 1, 0, 2, 2), ratio(1, 1), of(0), api.OK},
		{"through all works", ring(), ratio(100, 1), of(0, 1, 2, 3, 4, 5, 6, 7, 8, 9), api.OK},
		{"most of all", full(), ratio(1000, 1), nil, api.OK},
		{"means that differ by little", shopOf(num(999, 1000, 998, 999, 1000, 998, 999, 998, 999, 999), of(0, 4), 0, 1, 1, 2, 2, 3, 3, 0, 4, 5, 5, 6, 6, 7, 7, 8, 8, 9, 9, 4), ratio(999, 1), of(0, 1, 2, 3), api.OK},
	} {
		mean, round, err := dust.Mean(x.s)
		if mean != x.want || err != x.err {
			t.Errorf("%s: Mean is %v, %d, not %v, %d", x.name, mean, err, x.want, x.err)
		}
		if works := slices.Sorted(slices.Values(round)); x.works != nil && !slices.Equal(works, x.works) {
			t.Errorf("%s: Mean is %v, not of the works %v", x.name, round, x.works)
		}
		if err == api.OK && !isRound(x.s, round) {
			t.Errorf("%s: Mean is %v, which is no round", x.name, round)
		}
		levels, err := dust.Levels(x.s)
		if err != x.err {
			t.Errorf("%s: Levels is %d, not %d", x.name, err, x.err)
		}
		if e := dust.CheckLevels(x.s, mean, levels); err == api.OK && e != api.OK {
			t.Errorf("%s: CheckLevels of %v, %v is %d", x.name, mean, levels, e)
		}
	}
}

// P9.7 (CheckLevels)
func TestCheckLevels(t *testing.T) {
	for _, x := range []struct {
		name   string
		s      api.DustShop
		bound  api.Ratio
		levels []int64
		want   api.Errno
	}{
		{"of the chapter: 40 / 3", lean(), ratio(40, 3), num(50, 0, 10), api.OK},
		{"of the chapter: 13 / 1", lean(), ratio(13, 1), num(17, 0, 3), api.ErrSum},
		{"14 / 1", lean(), ratio(14, 1), num(16, 0, 4), api.OK},
		{"levels below 0", lean(), ratio(40, 3), num(0, -50, -40), api.OK},
		{"one level is one too low", lean(), ratio(40, 3), num(49, 0, 10), api.ErrSum},
		{"one level is one too high", lean(), ratio(40, 3), num(50, 1, 10), api.ErrSum},
		{"the last level is one too low", lean(), ratio(40, 3), num(50, 0, 9), api.ErrSum},
		{"not in least terms", lean(), ratio(120, 9), num(150, 0, 30), api.OK},
		{"not in least terms, too low by 1 / 9", lean(), ratio(119, 9), num(150, 0, 30), api.ErrSum},
		{"a work that may follow itself", chapter(), ratio(30, 1), num(0, 0, 0), api.OK},
		{"no levels prove it for a work that may follow itself", chapter(), ratio(29, 1), num(1000000, 0, -1000000), api.ErrSum},
		{"the greatest amounts", lean(), ratio(1000, 1), num(1000000, 999999, 1000000), api.OK},
		{"the greatest amounts below 0", lean(), ratio(1000, 1), num(-1000000, -1000000, -999999), api.OK},
		{"a round that is not reached", dead(), ratio(0, 1), num(12, 7, 0, 0), api.OK},
		{"a work that is not reached has any level", dead(), ratio(0, 1), num(12, 7, 0, -1000000), api.OK},
		{"no Follows", shopOf(num(9), of(0)), ratio(0, 1), num(-7), api.OK},
		{"the greatest bound", full(), ratio(10000, 10), make([]int64, 10), api.OK},
		{"one less than the greatest bound", full(), ratio(9999, 10), make([]int64, 10), api.ErrSum},
		{"the bound 0", shopOf(num(0), of(0), 0, 0), ratio(0, 10), num(0), api.OK},
		{"Den 0", lean(), ratio(0, 0), num(50, 0, 10), api.ErrArg},
		{"Den below 0", lean(), ratio(-40, -3), num(50, 0, 10), api.ErrArg},
		{"Den too great", lean(), ratio(150, 11), num(50, 0, 10), api.ErrArg},
		{"Num below 0", lean(), ratio(-1, 3), num(50, 0, 10), api.ErrArg},
		{"Num too great", lean(), ratio(3001, 3), num(50, 0, 10), api.ErrArg},
		{"Den far off", lean(), ratio(0, math.MaxInt64), num(50, 0, 10), api.ErrArg},
		{"Den far below 0", lean(), ratio(0, math.MinInt64), num(50, 0, 10), api.ErrArg},
		{"Num far off", lean(), ratio(math.MaxInt64, 3), num(50, 0, 10), api.ErrArg},
		{"Num far below 0", lean(), ratio(math.MinInt64, 3), num(50, 0, 10), api.ErrArg},
		{"the bound comes before levels that are too few", lean(), ratio(0, 0), nil, api.ErrArg},
		{"no levels", lean(), ratio(40, 3), nil, api.ErrEqual},
		{"too few levels", lean(), ratio(40, 3), num(50, 0), api.ErrEqual},
		{"too many levels", lean(), ratio(40, 3), num(50, 0, 10, 0), api.ErrEqual},
		{"far too many levels", lean(), ratio(40, 3), make([]int64, 70000), api.ErrEqual},
		{"too few come before a level that is too high", lean(), ratio(40, 3), num(1000001, 0), api.ErrEqual},
		{"a level is too high", lean(), ratio(1000, 1), num(0, 0, 1000001), api.ErrRange},
		{"a level is too low", lean(), ratio(1000, 1), num(-1000001, 0, 0), api.ErrRange},
		{"a level far off", lean(), ratio(1000, 1), num(0, math.MaxInt64, 0), api.ErrRange},
		{"a level far below 0", lean(), ratio(1000, 1), num(0, math.MinInt64, 0), api.ErrRange},
		{"a level of a work that is not reached is too high", dead(), ratio(0, 1), num(12, 7, 0, 1000001), api.ErrRange},
		{"a level that is too high comes before what proves nothing", lean(), ratio(0, 1), num(0, 0, 1000001), api.ErrRange},
	} {
		if err := dust.CheckLevels(x.s, x.bound, x.levels); err != x.want {
			t.Errorf("%s: CheckLevels is %d, not %d", x.name, err, x.want)
		}
	}
}

// R4, R9, R10
func TestMemory(t *testing.T) {
	s, list := lean(), of(2, 0, 1)
	tops, levels := of2(num(30, 10, 0), num(40, 10, 30)), num(50, 0, 10)
	for range 2 {
		errorsOf(s, list, 2, tops, 30, ratio(40, 3), levels)
		reached, _ := dust.Reached(s)
		_, run, _ := dust.Window(s, 2)
		made, _ := dust.Tops(s, 2)
		begins, _ := dust.Begins(s, 2, 30)
		mean, round, _ := dust.Mean(s)
		proof, _ := dust.Levels(s)
		got := [][]int{reached, run, begins}
		if want := [][]int{{0, 1, 2}, {0, 1}, {0}}; !reflect.DeepEqual(got, want) || mean != ratio(40, 3) || !isRound(s, round) {
			t.Errorf("another call returns %v, %v, %v", got, mean, round)
		}
		if bound, err := dust.CheckTops(s, made); bound != 40 || err != api.OK || dust.CheckLevels(s, mean, proof) != api.OK {
			t.Errorf("another call returns %v, %v", made, proof)
		}
		for _, list := range append(got, round) {
			for i := range list {
				list[i] = 77
			}
		}
		for _, list := range append(made, proof) {
			for i := range list {
				list[i] = 77
			}
		}
		// What grows out of one list must not come into another one.
		if first := append(made[0], 7); len(first) != 4 || made[1][0] != 77 {
			t.Errorf("tops share memory: %v", made)
		}
	}
	if !reflect.DeepEqual(s, lean()) || !slices.Equal(list, of(2, 0, 1)) || tops[1][2] != 30 || !slices.Equal(levels, num(50, 0, 10)) {
		t.Errorf("an argument has changed: %v, %v, %v, %v", s, list, tops, levels)
	}
}
