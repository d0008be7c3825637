package cross_test

import (
	"fmt"
	"math"
	"reflect"
	"slices"
	"testing"

	"bolster/api"
	"bolster/cross"
)

func rg(lo, hi int64) api.Range { return api.Range{Lo: lo, Hi: hi} }

func of(x ...int) []int { return x }

func list(x ...int64) []int64 { return x }

// rat returns a ratio.
func rat(num, den int64) api.Ratio { return api.Ratio{Num: num, Den: den} }

// ratios returns ratios: two numbers for each of them.
func ratios(x ...int64) []api.Ratio {
	var list []api.Ratio
	for i := 0; i < len(x); i += 2 {
		list = append(list, rat(x[i], x[i+1]))
	}
	return list
}

// span returns a span: a ratio for each end.
func span(num, den, num2, den2 int64) api.CrossSpan {
	return api.CrossSpan{Lo: rat(num, den), Hi: rat(num2, den2)}
}

// pairOf returns a pair of blades: three numbers for each station, At, Lo and Hi.
func pairOf(x ...int64) []api.CrossStation {
	var l []api.CrossStation
	for i := 0; i < len(x); i += 3 {
		l = append(l, api.CrossStation{At: x[i], High: rg(x[i+1], x[i+2])})
	}
	return l
}

// gapes returns the pair P of the chapter's examples, in new memory, and meets the pair Q.
func gapes() []api.CrossStation { return pairOf(0, 0, 0, 10, 1, 2, 20, 0, 1, 40, 8, 10) }
func meets() []api.CrossStation { return pairOf(0, 0, 0, 10, -2, 2, 20, 0, 1, 40, 8, 10) }

// bow returns a pair with so many stations, a millimetre apart, whose heights are known, and bent by 1 at each.
func bow(stations int) []api.CrossStation {
	var l []api.CrossStation
	for i := range int64(stations) {
		high := i * (i - 1) / 2
		l = append(l, pairOf(i, high, high)...)
	}
	return l
}

// pairCases change the pair Q of the chapter, and tell what CheckPair says of it then.
var pairCases = []struct {
	name   string
	change func(l []api.CrossStation) []api.CrossStation
	want   api.Errno
}{
	{"as it is", func(l []api.CrossStation) []api.CrossStation { return l }, api.OK},
	{"one station", func(l []api.CrossStation) []api.CrossStation { return l[3:] }, api.OK},
	{"most stations", func(l []api.CrossStation) []api.CrossStation { return bow(25) }, api.OK},
	{"stations that gape", func(l []api.CrossStation) []api.CrossStation { return gapes() }, api.OK},
	{"not from the screw on", func(l []api.CrossStation) []api.CrossStation { l[0].At = 9; return l }, api.OK},
	{"a millimetre apart", func(l []api.CrossStation) []api.CrossStation { l[1].At = 1; return l }, api.OK},
	{"up to the greatest At", func(l []api.CrossStation) []api.CrossStation { l[3].At = 1000; return l }, api.OK},
	{"the widest High", func(l []api.CrossStation) []api.CrossStation { l[2].High = rg(-1000, 1000); return l }, api.OK},
	{"a High at the top", func(l []api.CrossStation) []api.CrossStation { l[2].High = rg(1000, 1000); return l }, api.OK},
	{"a High at the bottom", func(l []api.CrossStation) []api.CrossStation { l[2].High = rg(-1000, -1000); return l }, api.OK},
	{"nothing", func(l []api.CrossStation) []api.CrossStation { return nil }, api.ErrMany},
	{"an empty list", func(l []api.CrossStation) []api.CrossStation { return l[:0] }, api.ErrMany},
	{"too many stations", func(l []api.CrossStation) []api.CrossStation { return bow(26) }, api.ErrMany},
	{"far too many stations", func(l []api.CrossStation) []api.CrossStation { return make([]api.CrossStation, 70000) }, api.ErrMany},
	{"too many come before one that is wrong", func(l []api.CrossStation) []api.CrossStation { return make([]api.CrossStation, 26) }, api.ErrMany},
	{"At below 0", func(l []api.CrossStation) []api.CrossStation { l[0].At = -1; return l }, api.ErrRange},
	{"At too great", func(l []api.CrossStation) []api.CrossStation { l[3].At = 1001; return l }, api.ErrRange},
	{"At far off", func(l []api.CrossStation) []api.CrossStation { l[3].At = math.MaxInt64; return l }, api.ErrRange},
	{"At far below 0", func(l []api.CrossStation) []api.CrossStation { l[0].At = math.MinInt64; return l }, api.ErrRange},
	{"the same At twice", func(l []api.CrossStation) []api.CrossStation { l[2].At = 10; return l }, api.ErrRange},
	{"the first At twice", func(l []api.CrossStation) []api.CrossStation { l[1].At = 0; return l }, api.ErrRange},
	{"the last At less", func(l []api.CrossStation) []api.CrossStation { l[3].At = 19; return l }, api.ErrRange},
	{"a High turned round", func(l []api.CrossStation) []api.CrossStation { l[2].High = rg(1, 0); return l }, api.ErrRange},
	{"Lo too low", func(l []api.CrossStation) []api.CrossStation { l[2].High.Lo = -1001; return l }, api.ErrRange},
	{"Hi too high", func(l []api.CrossStation) []api.CrossStation { l[2].High.Hi = 1001; return l }, api.ErrRange},
	{"Lo too high", func(l []api.CrossStation) []api.CrossStation { l[2].High = rg(1001, 1001); return l }, api.ErrRange},
	{"Hi too low", func(l []api.CrossStation) []api.CrossStation { l[2].High = rg(-1001, -1001); return l }, api.ErrRange},
	{"Lo far off", func(l []api.CrossStation) []api.CrossStation { l[0].High.Lo = math.MinInt64; return l }, api.ErrRange},
	{"Hi far off", func(l []api.CrossStation) []api.CrossStation { l[3].High.Hi = math.MaxInt64; return l }, api.ErrRange},
	{"the last one alone", func(l []api.CrossStation) []api.CrossStation { l[3].High = rg(9, 8); return l }, api.ErrRange},
}

// P6.1, and that all functions return the error of CheckPair before all others
func TestCheckPair(t *testing.T) {
	for _, x := range pairCases {
		l := x.change(meets())
		if e := cross.CheckPair(l); e != x.want {
			t.Errorf("%s: CheckPair is %d, not %d", x.name, e, x.want)
		}
		if x.want == api.OK {
			continue
		}
		for function, got := range errorsOf(l, nil, rat(0, 0), -1, nil) {
			if got != x.want {
				t.Errorf("%s: %s is %d, not %d", x.name, function, got, x.want)
			}
		}
	}
}

// errorsOf returns the error of each function but CheckPair, or -1 if another result is not zero with an error.
func errorsOf(l []api.CrossStation, truth []int64, tilt api.Ratio, station int, heights []api.Ratio) map[string]api.Errno {
	all := map[string]api.Errno{"CheckHeights": cross.CheckHeights(l, heights)}
	add := func(function string, e api.Errno, zero bool) {
		if e != api.OK && !zero {
			e = -1
		}
		all[function] = e
	}
	names, e := cross.Contact(l, truth, tilt)
	add("Contact", e, len(names) == 0)
	s, e := cross.Tilts(l, truth, station)
	add("Tilts", e, s == api.CrossSpan{})
	s, e = cross.Can(l, station)
	add("Can", e, s == api.CrossSpan{})
	s, e = cross.Sure(l, station)
	add("Sure", e, s == api.CrossSpan{})
	kinds, e := cross.Kinds(l)
	add("Kinds", e, len(kinds) == 0)
	w, e := cross.Wedge(l)
	add("Wedge", e, w == [3]int{})
	most, e := cross.Heights(l)
	add("Heights", e, len(most) == 0)
	s, e = cross.Ground(l, station)
	add("Ground", e, s == api.CrossSpan{})
	return all
}

// Each function with a valid pair returns its own error, with nothing beside it, in the order that the chapter says: that of the truth, then that of the station or of the tilt, then that they gape.
func TestErrorsAlone(t *testing.T) {
	for _, x := range []struct {
		name    string
		l       []api.CrossStation
		truth   []int64
		tilt    api.Ratio
		station int
		heights []api.Ratio
		want    map[string]api.Errno
	}{
		{"nothing is wrong", meets(), list(0, -1, 1, 9), rat(0, 1), 2, ratios(0, 1, 0, 1, 1, 1, 9, 1), map[string]api.Errno{"Wedge": api.ErrNone}},
		{"they gape in this truth", meets(), list(0, 2, 1, 9), rat(0, 1), 1, ratios(0, 1, 2, 1, 1, 1, 9, 1), map[string]api.Errno{
			"Tilts": api.ErrGape, "Sure": api.ErrGape, "Wedge": api.ErrNone, "CheckHeights": api.ErrGape,
		}},
		{"they gape in each truth", gapes(), list(0, 1, 1, 9), rat(0, 1), 1, ratios(0, 1, 1, 1, 1, 1, 9, 1), map[string]api.Errno{
			"Tilts": api.ErrGape, "Can": api.ErrGape, "Sure": api.ErrGape, "Heights": api.ErrGape, "CheckHeights": api.ErrGape,
		}},
		{"the tilt and the station are wrong", gapes(), list(0, 1, 1, 9), rat(0, 0), 4, ratios(0, 1, 2, 1, 1, 1, 11, 1), map[string]api.Errno{
			"Contact": api.ErrArg, "Tilts": api.ErrRange, "Can": api.ErrRange, "Sure": api.ErrRange, "Heights": api.ErrGape, "CheckHeights": api.ErrRange, "Ground": api.ErrRange,
		}},
		{"the truth is wrong, too", gapes(), list(0, 1, 1, 11), rat(0, 0), 4, ratios(0, 1, 2, 1, 1, 1), map[string]api.Errno{
			"Contact": api.ErrRange, "Tilts": api.ErrRange, "Can": api.ErrRange, "Sure": api.ErrRange, "Heights": api.ErrGape, "CheckHeights": api.ErrEqual, "Ground": api.ErrRange,
		}},
		{"the truth is too short", gapes(), list(0, 1, 11), rat(0, 0), 4, nil, map[string]api.Errno{
			"Contact": api.ErrEqual, "Tilts": api.ErrEqual, "Can": api.ErrRange, "Sure": api.ErrRange, "Heights": api.ErrGape, "CheckHeights": api.ErrEqual, "Ground": api.ErrRange,
		}},
	} {
		for function, e := range errorsOf(x.l, x.truth, x.tilt, x.station, x.heights) {
			if e != x.want[function] {
				t.Errorf("%s: %s is %d, not %d", x.name, function, e, x.want[function])
			}
		}
	}
}

// P6.2, P6.3 (the errors of a truth)
func TestTruths(t *testing.T) {
	for _, x := range []struct {
		name  string
		l     []api.CrossStation
		truth []int64
		want  api.Errno
	}{
		{"each one at its Lo", meets(), list(0, -2, 0, 8), api.OK},
		{"each one at its Hi", meets(), list(0, 2, 1, 10), api.OK},
		{"between", meets(), list(0, 0, 1, 9), api.OK},
		{"of one station", pairOf(7, -3, 4), list(4), api.OK},
		{"nothing", meets(), nil, api.ErrEqual},
		{"too short", meets(), list(0, 0, 0), api.ErrEqual},
		{"too long", meets(), list(0, 0, 0, 8, 0), api.ErrEqual},
		{"far too long", meets(), make([]int64, 70000), api.ErrEqual},
		{"too short comes before a number", meets(), list(0, 0, 2), api.ErrEqual},
		{"below a Lo", meets(), list(0, -3, 0, 8), api.ErrRange},
		{"above a Hi", meets(), list(0, 3, 0, 8), api.ErrRange},
		{"the first one", meets(), list(1, 0, 0, 8), api.ErrRange},
		{"the last one", meets(), list(0, 0, 0, 7), api.ErrRange},
		{"far off", meets(), list(0, 0, 0, math.MaxInt64), api.ErrRange},
		{"far below 0", meets(), list(math.MinInt64, 0, 0, 8), api.ErrRange},
	} {
		if _, e := cross.Contact(x.l, x.truth, rat(0, 1)); e != x.want {
			t.Errorf("%s: Contact is %d, not %d", x.name, e, x.want)
		}
		if _, e := cross.Tilts(x.l, x.truth, 0); e != x.want {
			t.Errorf("%s: Tilts is %d, not %d", x.name, e, x.want)
		}
	}
}

// P6.2
func TestContact(t *testing.T) {
	truth := list(0, -1, 1, 9)
	flat := pairOf(0, 5, 5, 300, 5, 5, 700, 5, 6, 1000, 5, 5)
	high := pairOf(0, 1000, 1000, 1, -1000, -1000, 1000, 1000, 1000)
	for _, x := range []struct {
		name  string
		l     []api.CrossStation
		truth []int64
		tilt  api.Ratio
		want  []int
		e     api.Errno
	}{
		{"of the chapter: 0", meets(), truth, rat(0, 1), of(1), api.OK},
		{"of the chapter: 1 / 5", meets(), truth, rat(1, 5), of(1, 2), api.OK},
		{"of the chapter: 2", meets(), truth, rat(2, 1), of(3), api.OK},
		{"not in least terms", meets(), truth, rat(200000, 1000000), of(1, 2), api.OK},
		{"0, not in least terms", meets(), truth, rat(0, 1000000), of(1), api.OK},
		{"a little less", meets(), truth, rat(199999, 1000000), of(1), api.OK},
		{"a little more", meets(), truth, rat(200001, 1000000), of(2), api.OK},
		{"below 0", meets(), truth, rat(-1, 10), of(0, 1), api.OK},
		{"a little lower", meets(), truth, rat(-100001, 1000000), of(0), api.OK},
		{"a truth that gapes", gapes(), list(0, 2, 1, 9), rat(1, 20), of(0, 2), api.OK},
		{"all on a line", flat, list(5, 5, 5, 5), rat(0, 7), of(0, 1, 2, 3), api.OK},
		{"all on a line but one", flat, list(5, 5, 6, 5), rat(0, 7), of(0, 1, 3), api.OK},
		{"one station", pairOf(3, 7, 9), list(8), rat(-77, 13), of(0), api.OK},
		{"the least tilt", high, list(1000, -1000, 1000), rat(-10000, 1), of(0), api.OK},
		{"the greatest tilt", high, list(1000, -1000, 1000), rat(10000, 1), of(2), api.OK},
		{"the least slope there is", high, list(1000, -1000, 1000), rat(-2000, 1), of(0, 1), api.OK},
		{"the least tilt, in other terms", high, list(1000, -1000, 1000), rat(-10000000000, 1000000), of(0), api.OK},
		{"the greatest tilt, in other terms", high, list(1000, -1000, 1000), rat(10000000000, 1000000), of(2), api.OK},
		{"Den 0", meets(), truth, rat(1, 0), nil, api.ErrArg},
		{"Den 0, as zero", meets(), truth, rat(0, 0), nil, api.ErrArg},
		{"Den below 0", meets(), truth, rat(1, -5), nil, api.ErrArg},
		{"Den too great", meets(), truth, rat(0, 1000001), nil, api.ErrArg},
		{"Den far off", meets(), truth, rat(0, math.MaxInt64), nil, api.ErrArg},
		{"Den far below 0", meets(), truth, rat(0, math.MinInt64), nil, api.ErrArg},
		{"too great", meets(), truth, rat(10001, 1), nil, api.ErrArg},
		{"too low", meets(), truth, rat(-10001, 1), nil, api.ErrArg},
		{"a little too great", meets(), truth, rat(10000000001, 1000000), nil, api.ErrArg},
		{"a little too low", meets(), truth, rat(-10000000001, 1000000), nil, api.ErrArg},
		{"far off", meets(), truth, rat(math.MaxInt64, 1000000), nil, api.ErrArg},
		{"far below 0", meets(), truth, rat(math.MinInt64, 1), nil, api.ErrArg},
	} {
		if names, e := cross.Contact(x.l, x.truth, x.tilt); !slices.Equal(names, x.want) || e != x.e {
			t.Errorf("%s: Contact is %v, %d, not %v, %d", x.name, names, e, x.want, x.e)
		}
	}
}

// noStations are names that no station of the chapter's pairs has.
var noStations = []int{-1, 4, 25, math.MaxInt, math.MinInt}

// P6.3, P6.4, P6.8: names that no station has
func TestNoStations(t *testing.T) {
	for _, l := range [][]api.CrossStation{gapes(), meets()} {
		for _, station := range noStations {
			for function, e := range errorsOf(l, list(0, 1, 1, 9), rat(0, 1), station, nil) {
				if slices.Contains([]string{"Tilts", "Can", "Sure", "Ground"}, function) && e != api.ErrRange {
					t.Errorf("%s of %d is %d", function, station, e)
				}
			}
		}
	}
	if _, e := cross.Can(pairOf(3, 7, 9), 1); e != api.ErrRange {
		t.Errorf("Can of the second one of one station is %d", e)
	}
}

// P6.3
func TestTilts(t *testing.T) {
	truth := list(0, -1, 1, 9)
	steep := pairOf(0, -1000, 1000, 1, -1000, 1000, 2, -1000, 1000)
	for _, x := range []struct {
		name    string
		l       []api.CrossStation
		truth   []int64
		station int
		want    api.CrossSpan
		e       api.Errno
	}{
		{"of the chapter", meets(), truth, 1, span(-1, 10, 1, 5), api.OK},
		{"of the chapter: they gape", meets(), list(0, 2, 1, 9), 1, api.CrossSpan{}, api.ErrGape},
		{"the first one", meets(), truth, 0, span(-10000, 1, -1, 10), api.OK},
		{"the third one", meets(), truth, 2, span(1, 5, 2, 5), api.OK},
		{"the last one", meets(), truth, 3, span(2, 5, 10000, 1), api.OK},
		{"the first one beside one that gapes", meets(), list(0, 2, 1, 9), 0, span(-10000, 1, 1, 20), api.OK},
		{"one tilt alone", pairOf(0, 0, 0, 10, 0, 1, 20, 0, 2), list(0, 1, 2), 1, span(1, 10, 1, 10), api.OK},
		{"just above the line", pairOf(0, 0, 0, 500, 0, 1, 1000, 0, 1), list(0, 1, 1), 1, api.CrossSpan{}, api.ErrGape},
		{"one station", pairOf(3, 7, 9), list(8), 0, span(-10000, 1, 10000, 1), api.OK},
		{"two stations", pairOf(3, 7, 9, 7, 1, 1), list(8, 1), 1, span(-7, 4, 10000, 1), api.OK},
		{"the widest one", steep, list(1000, -1000, 1000), 1, span(-2000, 1, 2000, 1), api.OK},
		{"the highest one", steep, list(-1000, 1000, -1000), 1, api.CrossSpan{}, api.ErrGape},
		{"before the deepest one", steep, list(1000, -1000, 1000), 0, span(-10000, 1, -2000, 1), api.OK},
		{"a zero", pairOf(0, 4, 4, 6, 4, 4, 9, 8, 8), list(4, 4, 8), 1, span(0, 1, 4, 3), api.OK},
	} {
		if s, e := cross.Tilts(x.l, x.truth, x.station); s != x.want || e != x.e {
			t.Errorf("%s: Tilts is %v, %d, not %v, %d", x.name, s, e, x.want, x.e)
		}
	}
}

// P6.4, P6.8, and the kind of the station (P6.5)
func TestStations(t *testing.T) {
	none := api.CrossSpan{}
	steep := pairOf(0, -1000, 1000, 1, -1000, 1000, 2, -1000, 1000)
	for _, x := range []struct {
		name            string
		l               []api.CrossStation
		station         int
		can, sure       api.CrossSpan
		ground          api.CrossSpan
		kind            int
		errCan, errSure api.Errno
	}{
		{"Q, 0", meets(), 0, span(-10000, 1, 1, 20), span(-10000, 1, -1, 5), span(0, 1, 0, 1), api.CrossAlways, api.OK, api.OK},
		{"Q, 1", meets(), 1, span(-1, 5, 3, 10), none, span(0, 1, 2, 1), api.CrossMay, api.OK, api.ErrGape},
		{"Q, 2", meets(), 2, span(0, 1, 1, 2), span(3, 10, 7, 20), span(0, 1, 0, 1), api.CrossAlways, api.OK, api.OK},
		{"Q, 3", meets(), 3, span(7, 20, 10000, 1), span(1, 2, 10000, 1), span(0, 1, 0, 1), api.CrossAlways, api.OK, api.OK},
		{"P, 1", gapes(), 1, none, none, span(1, 2, 2, 1), api.CrossNever, api.ErrGape, api.ErrGape},
		{"one station", pairOf(1000, -1000, 1000), 0, span(-10000, 1, 10000, 1), span(-10000, 1, 10000, 1), span(0, 1, 0, 1), api.CrossAlways, api.OK, api.OK},
		{"on the line in one truth", pairOf(0, 0, 1, 10, 1, 2, 20, 0, 1), 1, span(0, 1, 0, 1), none, span(0, 1, 2, 1), api.CrossMay, api.OK, api.ErrGape},
		{"on the line in all truths", pairOf(0, 3, 3, 10, 2, 2, 20, 1, 1), 1, span(-1, 10, -1, 10), span(-1, 10, -1, 10), span(0, 1, 0, 1), api.CrossAlways, api.OK, api.OK},
		{"on the line, or below it", pairOf(0, 3, 3, 10, 0, 2, 20, 1, 1), 1, span(-3, 10, 1, 10), span(-1, 10, -1, 10), span(0, 1, 0, 1), api.CrossAlways, api.OK, api.OK},
		{"a little above it", pairOf(0, 0, 0, 1, 1, 1, 1000, 999, 999), 1, none, none, span(1, 1000, 1, 1000), api.CrossNever, api.ErrGape, api.ErrGape},
		{"anything", steep, 1, span(-2000, 1, 2000, 1), none, span(0, 1, 2000, 1), api.CrossMay, api.OK, api.ErrGape},
		{"anything, at an end", steep, 2, span(-1000, 1, 10000, 1), span(2000, 1, 10000, 1), span(0, 1, 0, 1), api.CrossAlways, api.OK, api.OK},
		{"the least line is not that of neighbours", pairOf(0, 0, 0, 1, 5, 5, 2, 4, 4, 3, 5, 5, 4, 0, 0), 2, none, none, span(4, 1, 4, 1), api.CrossNever, api.ErrGape, api.ErrGape},
	} {
		if s, e := cross.Can(x.l, x.station); s != x.can || e != x.errCan {
			t.Errorf("%s: Can is %v, %d, not %v, %d", x.name, s, e, x.can, x.errCan)
		}
		if s, e := cross.Sure(x.l, x.station); s != x.sure || e != x.errSure {
			t.Errorf("%s: Sure is %v, %d, not %v, %d", x.name, s, e, x.sure, x.errSure)
		}
		if s, e := cross.Ground(x.l, x.station); s != x.ground || e != api.OK {
			t.Errorf("%s: Ground is %v, %d, not %v", x.name, s, e, x.ground)
		}
		if kinds, e := cross.Kinds(x.l); e != api.OK || len(kinds) != len(x.l) || kinds[x.station] != x.kind {
			t.Errorf("%s: Kinds is %v, %d, not %d", x.name, kinds, e, x.kind)
		}
	}
}

// P6.5
func TestKinds(t *testing.T) {
	for _, x := range []struct {
		name string
		l    []api.CrossStation
		want []int
	}{
		{"of the chapter: P", gapes(), of(2, 0, 2, 2)},
		{"of the chapter: Q", meets(), of(2, 1, 2, 2)},
		{"one station", pairOf(0, -5, 5), of(2)},
		{"two stations", pairOf(0, -5, 5, 1, -5, 5), of(2, 2)},
		{"three stations of which nothing is known", pairOf(0, -5, 5, 1, -5, 5, 2, -5, 5), of(2, 1, 2)},
		{"a bow", bow(25), slices.Repeat(of(2), 25)},
		{"an arch", pairOf(0, 0, 1, 1, 2, 3, 2, 2, 3, 3, 0, 1), of(2, 0, 0, 2)},
	} {
		if kinds, e := cross.Kinds(x.l); !slices.Equal(kinds, x.want) || e != api.OK {
			t.Errorf("%s: Kinds is %v, %d, not %v", x.name, kinds, e, x.want)
		}
	}
}

// P6.6, and P6.9 with it
func TestWedge(t *testing.T) {
	last := bow(25)
	last[23].High = rg(last[23].High.Lo+1, 1000)
	far := bow(25)
	far[24].High = rg(-1000, -1000)
	for _, x := range []struct {
		name string
		l    []api.CrossStation
		want [3]int
		e    api.Errno
	}{
		{"of the chapter: P", gapes(), [3]int{0, 1, 2}, api.OK},
		{"of the chapter: Q", meets(), [3]int{}, api.ErrNone},
		{"one station", pairOf(0, 5, 5), [3]int{}, api.ErrNone},
		{"two stations", pairOf(0, 5, 5, 1, 9, 9), [3]int{}, api.ErrNone},
		{"just on the line", pairOf(0, 0, 1, 10, 1, 2, 20, 0, 1), [3]int{}, api.ErrNone},
		{"just above the line", pairOf(0, 0, 1, 10, 2, 2, 20, 0, 2), [3]int{0, 1, 2}, api.OK},
		{"a little above the line", pairOf(0, 0, 0, 1, 1, 1, 1000, 999, 999), [3]int{0, 1, 2}, api.OK},
		{"a line that is not on a whole number", pairOf(0, 0, 0, 1, 1, 1, 3, 2, 2), [3]int{0, 1, 2}, api.OK},
		{"a little below the line", pairOf(0, 0, 0, 2, 1, 1, 3, 2, 2), [3]int{}, api.ErrNone},
		{"a Hi above the line alone", pairOf(0, 0, 0, 10, -5, 9, 20, 0, 0), [3]int{}, api.ErrNone},
		{"a bow", bow(25), [3]int{}, api.ErrNone},
		{"the last three", last, [3]int{22, 23, 24}, api.OK},
		{"the last one alone", far, [3]int{0, 1, 24}, api.OK},
		{"the first one decides first", pairOf(0, 9, 9, 1, 0, 0, 2, 1, 1, 3, 0, 0, 4, 0, 0), [3]int{1, 2, 3}, api.OK},
		{"then the second one", pairOf(0, 0, 0, 1, -5, 5, 2, 4, 4, 3, 4, 4, 4, 0, 0), [3]int{0, 2, 3}, api.OK},
		{"then the third one", pairOf(0, 0, 0, 1, 2, 2, 2, 4, 4, 3, 6, 6, 4, 7, 7, 5, 9, 9), [3]int{0, 1, 4}, api.OK},
	} {
		w, e := cross.Wedge(x.l)
		if w != x.want || e != x.e {
			t.Errorf("%s: Wedge is %v, %d, not %v, %d", x.name, w, e, x.want, x.e)
		}
		if _, e := cross.Heights(x.l); (e == api.OK) != (x.e == api.ErrNone) {
			t.Errorf("%s: Heights is %d", x.name, e)
		}
	}
}

// P6.7 (CheckHeights)
func TestCheckHeights(t *testing.T) {
	wide := pairOf(0, -1000, 1000, 7, -1000, 1000, 1000, -1000, 1000)
	half := pairOf(0, -1000, 1000, 499, -1000, 1000, 1000, -1000, 1000)
	one := pairOf(4, -1000, 1000)
	for _, x := range []struct {
		name    string
		l       []api.CrossStation
		heights []api.Ratio
		want    api.Errno
	}{
		{"of Heights", meets(), ratios(0, 1, 1, 2, 1, 1, 10, 1), api.OK},
		{"less", meets(), ratios(0, 1, -2, 1, 0, 1, 8, 1), api.OK},
		{"not in least terms", meets(), ratios(0, 1000, 500, 1000, 900, 900, 80, 10), api.OK},
		{"as high as three allow", meets(), ratios(0, 7, 1, 3, 2, 3, 25, 3), api.OK},
		{"a little less", meets(), ratios(0, 7, 1, 3, 667, 1000, 25, 3), api.OK},
		{"a little more", meets(), ratios(0, 7, 1, 3, 666, 1000, 25, 3), api.ErrGape},
		{"above a line", meets(), ratios(0, 1, 501, 1000, 1, 1, 10, 1), api.ErrGape},
		{"above the last line", pairOf(0, 0, 0, 1, 0, 5, 2, 0, 5, 3, 0, 5), ratios(0, 1, 0, 1, 3, 2, 299, 100), api.ErrGape},
		{"on the last line", pairOf(0, 0, 0, 1, 0, 5, 2, 0, 5, 3, 0, 5), ratios(0, 1, 0, 1, 3, 2, 3, 1), api.OK},
		{"of blades that gape", gapes(), ratios(0, 1, 1, 1, 1, 1, 10, 1), api.ErrGape},
		{"one station, least", one, ratios(-1000, 1), api.OK},
		{"one station, most", one, ratios(1000, 1), api.OK},
		{"the greatest numbers", one, ratios(1000000, 1000), api.OK},
		{"the least number", one, ratios(-1000000, 1000), api.OK},
		{"great numbers on a line", wide, ratios(-1000000, 1000, -986, 1, 1000, 1), api.OK},
		{"great numbers above it", wide, ratios(-1000000, 1000, -985999, 1000, 999999, 1000), api.ErrGape},
		{"great Dens that differ", wide, ratios(-999001, 1000, -984044, 999, 994010, 997), api.OK},
		{"great Dens that differ, above the line", wide, ratios(-999001, 1000, -984043, 999, 994010, 997), api.ErrGape},
		{"as little below a line as can be", half, ratios(-813833, 1000, -631378, 997, -451547, 999), api.OK},
		{"as little above a line as can be", half, ratios(-570167, 1000, -748470, 997, -931069, 999), api.ErrGape},
		{"nothing", meets(), nil, api.ErrEqual},
		{"too short", meets(), ratios(0, 1, 0, 1, 1, 1), api.ErrEqual},
		{"too long", meets(), ratios(0, 1, 0, 1, 1, 1, 10, 1, 10, 1), api.ErrEqual},
		{"far too long", meets(), make([]api.Ratio, 70000), api.ErrEqual},
		{"too short comes before a ratio", meets(), ratios(0, 0, 0, 1, 1, 1), api.ErrEqual},
		{"Den 0", meets(), ratios(0, 1, 0, 0, 1, 1, 10, 1), api.ErrRange},
		{"Den below 0", meets(), ratios(0, 1, 0, -1, 1, 1, 10, 1), api.ErrRange},
		{"Num and Den below 0", meets(), ratios(0, 1, 0, 1, -1, -1, 10, 1), api.ErrRange},
		{"Den too great", meets(), ratios(0, 1001, 0, 1, 1, 1, 10, 1), api.ErrRange},
		{"Den far off", meets(), ratios(0, math.MaxInt64, 0, 1, 1, 1, 10, 1), api.ErrRange},
		{"Den far below 0", meets(), ratios(0, math.MinInt64, 0, 1, 1, 1, 10, 1), api.ErrRange},
		{"Num too great", one, ratios(1000001, 1000), api.ErrRange},
		{"Num far off", one, ratios(math.MaxInt64, 1000), api.ErrRange},
		{"Num far below 0", one, ratios(math.MinInt64, 1), api.ErrRange},
		{"a little below a Lo", meets(), ratios(0, 1, 0, 1, 1, 1, 7999, 1000), api.ErrRange},
		{"a little above a Hi", meets(), ratios(0, 1, 0, 1, 1, 1, 10001, 1000), api.ErrRange},
		{"a little below a Lo below 0", meets(), ratios(0, 1, -2001, 1000, 1, 1, 10, 1), api.ErrRange},
		{"a ratio comes before that they gape", meets(), ratios(0, 1, 2, 1, 1, 1, 11, 1), api.ErrRange},
	} {
		if e := cross.CheckHeights(x.l, x.heights); e != x.want {
			t.Errorf("%s: CheckHeights is %d, not %d", x.name, e, x.want)
		}
	}
}

// P6.7 (Heights)
func TestHeights(t *testing.T) {
	bowed := ratios(0, 1, 0, 1, 1, 1, 3, 1, 6, 1, 10, 1)
	for _, x := range []struct {
		name string
		l    []api.CrossStation
		want []api.Ratio
		e    api.Errno
	}{
		{"of the chapter: Q", meets(), ratios(0, 1, 1, 2, 1, 1, 10, 1), api.OK},
		{"of the chapter: P", gapes(), nil, api.ErrGape},
		{"one station", pairOf(5, -7, 3), ratios(3, 1), api.OK},
		{"two stations", pairOf(5, -7, 3, 6, 1000, 1000), ratios(3, 1, 1000, 1), api.OK},
		{"a bow", bow(6), bowed, api.OK},
		{"just on a line", pairOf(0, 0, 1, 10, 1, 2, 20, 0, 1), ratios(1, 1, 1, 1, 1, 1), api.OK},
		{"just below one", pairOf(0, 0, 1, 10, 2, 2, 20, 0, 2), nil, api.ErrGape},
		{"the greatest Den", pairOf(0, -5, 0, 7, -5, 5, 1000, -5, 1), ratios(0, 1, 7, 1000, 1, 1), api.OK},
		{"the greatest numbers", pairOf(0, -1000, -1000, 1, -1000, 1000, 1000, -1000, -999), ratios(-1000, 1, -999999, 1000, -999, 1), api.OK},
		{"the last one decides", pairOf(0, 0, 0, 1, -9, 9, 2, -9, 9, 3, -9, 9, 4, -9, -8), ratios(0, 1, -2, 1, -4, 1, -6, 1, -8, 1), api.OK},
		{"too low for one alone", pairOf(0, 0, 0, 1, -9, 9, 2, -3, 9, 3, -9, 9, 4, -9, -8), nil, api.ErrGape},
		{"a line below 0", pairOf(0, 0, 0, 1, -9, 9, 3, -1, -1), ratios(0, 1, -1, 3, -1, 1), api.OK},
	} {
		heights, e := cross.Heights(x.l)
		if !slices.Equal(heights, x.want) || e != x.e {
			t.Errorf("%s: Heights is %v, %d, not %v, %d", x.name, heights, e, x.want, x.e)
		}
		if e == api.OK && cross.CheckHeights(x.l, heights) != api.OK {
			t.Errorf("%s: CheckHeights of Heights %v is %d", x.name, heights, cross.CheckHeights(x.l, heights))
		}
	}
}

// P6.8
func TestGround(t *testing.T) {
	for _, x := range []struct {
		name    string
		l       []api.CrossStation
		station int
		want    api.CrossSpan
	}{
		{"of the chapter: P, 1", gapes(), 1, span(1, 2, 2, 1)},
		{"of the chapter: Q, 1", meets(), 1, span(0, 1, 2, 1)},
		{"of the chapter: Q, 0", meets(), 0, span(0, 1, 0, 1)},
		{"the last one", meets(), 3, span(0, 1, 0, 1)},
		{"one station", pairOf(5, -7, 3), 0, span(0, 1, 0, 1)},
		{"one number alone", pairOf(0, 0, 0, 3, 2, 2, 9, 0, 0), 1, span(2, 1, 2, 1)},
		{"not a whole number", pairOf(0, 0, 0, 3, 2, 2, 9, 1, 2), 1, span(4, 3, 5, 3)},
		{"more than it is high", pairOf(0, -5, -5, 1, 3, 4, 2, -6, -5), 1, span(8, 1, 19, 2)},
		{"up to just nothing", pairOf(0, 0, 0, 3, -9, 1, 9, 3, 3), 1, span(0, 1, 0, 1)},
		{"the most there is", pairOf(0, -1000, -1000, 1, 1000, 1000, 2, -1000, -1000), 1, span(2000, 1, 2000, 1)},
		{"the least there is", pairOf(0, 0, 0, 1, 1, 1, 1000, 999, 999), 1, span(1, 1000, 1, 1000)},
		{"lines that are nearly as high", pairOf(0, 921, 921, 1, 921, 921, 989, 1000, 1000, 999, 973, 973, 1000, 922, 922), 2, span(77933, 999, 77933, 999)},
	} {
		if s, e := cross.Ground(x.l, x.station); s != x.want || e != api.OK {
			t.Errorf("%s: Ground is %v, %d, not %v", x.name, s, e, x.want)
		}
	}
}

// results returns what all functions that return lists return of a pair, as texts, and overwrites the lists.
func results(l []api.CrossStation, truth []int64) [][]string {
	var all [][]string
	add := func(list any) {
		v := reflect.ValueOf(list)
		var texts []string
		for i := range v.Len() {
			texts = append(texts, fmt.Sprint(v.Index(i)))
			v.Index(i).SetZero()
		}
		all = append(all, texts)
	}
	names, _ := cross.Contact(l, truth, rat(1, 20))
	add(names)
	kinds, _ := cross.Kinds(l)
	add(kinds)
	heights, _ := cross.Heights(l)
	add(heights)
	return all
}

// R4, R9: no argument is changed, and what one call returns is not what another one returns, or was given.
func TestMemory(t *testing.T) {
	for _, fresh := range []func() []api.CrossStation{gapes, meets} {
		l, truth, heights := fresh(), list(0, 1, 1, 10), ratios(0, 1, 10, 10, 1, 1, 20, 2)
		first := results(l, truth)
		errorsOf(l, truth, rat(1, 20), 1, heights)
		if again := results(l, truth); !reflect.DeepEqual(again, first) {
			t.Errorf("another call returns %v, not %v", again, first)
		}
		if !slices.Equal(l, fresh()) || !slices.Equal(truth, list(0, 1, 1, 10)) || !slices.Equal(heights, ratios(0, 1, 10, 10, 1, 1, 20, 2)) {
			t.Errorf("an argument has changed: %v, %v, %v", l, truth, heights)
		}
	}
}
