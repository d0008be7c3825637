package heat_test

import (
	"slices"
	"testing"

	"bolster/api"
	"bolster/heat"
)

// within reports whether each range is within the one of the other list.
func within(inner, outer []api.Range) bool {
	return slices.EqualFunc(inner, outer, func(a, b api.Range) bool { return b.Lo <= a.Lo && a.Hi <= b.Hi })
}

// ranges returns the ranges of a recipe.
func ranges(t *testing.T, w api.HeatWorks, r api.HeatRecipe) []api.Range {
	t.Helper()
	l, e := heat.Ranges(w, r)
	if e != api.OK || len(l) != len(w.Steps)+1 {
		t.Fatalf("Ranges of %v, %v is %v, %d", w, r, l, e)
	}
	return l
}

// P1.9 (reached)
func TestReached(t *testing.T) {
	samples(t, func(t *testing.T, s sample) {
		l := ranges(t, s.w, s.r)
		for i, h := range s.history(s.w, s.r) {
			if h < l[i].Lo || h > l[i].Hi {
				t.Errorf("%v: a history has %d at %d, outside of %v", s, h, i, l[i])
			}
		}
		for i := range l {
			// the first steps alone end with this range: a history can be asked for that ends there
			first := api.HeatWorks{Bars: s.w.Bars, Steps: s.w.Steps[:i]}
			r := api.HeatRecipe{Bar: s.r.Bar, Ways: s.r.Ways[:i]}
			for _, end := range []int64{l[i].Lo, l[i].Hi} {
				h, e := heat.History(first, r, rg(end, end))
				if e != api.OK || heat.CheckHistory(first, r, h) != api.OK || h[i] != end {
					t.Errorf("%v: no history has %d at %d: %v, %d", s, end, i, h, e)
				}
			}
		}
	})
}

// P1.10 (blamed)
func TestBlamed(t *testing.T) {
	samples(t, func(t *testing.T, s sample) {
		h := s.history(s.w, s.r)
		last := h[len(h)-1]
		measured := rg(max(0, last-s.from(0, 3)), last+s.from(0, 3))
		bars, e1 := heat.Bars(s.w, measured)
		ways, e2 := heat.Ways(s.w, measured)
		if e1 != api.OK || e2 != api.OK || !slices.Contains(bars, s.r.Bar) {
			t.Errorf("%v: Bars with %v is %v, %d, %d", s, measured, bars, e1, e2)
		}
		for i, way := range s.r.Ways {
			if !slices.Contains(ways[i], way) {
				t.Errorf("%v: Ways with %v is %v", s, measured, ways)
			}
		}
		var agree []api.HeatRecipe
		for _, r := range recipes(s.w) {
			if _, e := heat.History(s.w, r, measured); e == api.OK {
				agree = append(agree, r)
			}
		}
		for _, bar := range bars {
			if !slices.ContainsFunc(agree, func(r api.HeatRecipe) bool { return r.Bar == bar }) {
				t.Errorf("%v: the bar %d is in no recipe that agrees with %v", s, bar, measured)
			}
		}
		for i := range ways {
			for _, way := range ways[i] {
				if !slices.ContainsFunc(agree, func(r api.HeatRecipe) bool { return r.Ways[i] == way }) {
					t.Errorf("%v: the way %d of %d is in no recipe that agrees with %v", s, way, i, measured)
				}
			}
		}
		if n, e := heat.Count(s.w, measured); n != len(agree) || e != api.OK {
			t.Errorf("%v: Count with %v is %d, %d, not %d", s, measured, n, e, len(agree))
		}
	})
}

// P1.11 (narrower)
func TestNarrower(t *testing.T) {
	contains := func(outer, inner []int) bool {
		return !slices.ContainsFunc(inner, func(x int) bool { return !slices.Contains(outer, x) })
	}
	samples(t, func(t *testing.T, s sample) {
		less := s.measured
		less.Lo = s.from(less.Lo, less.Hi)
		less.Hi = s.from(less.Lo, less.Hi)
		n, _ := heat.Count(s.w, s.measured)
		m, _ := heat.Count(s.w, less)
		if m > n {
			t.Errorf("%v: Count grows from %d to %d with %v", s, n, m, less)
		}
		bars, _ := heat.Bars(s.w, s.measured)
		fewer, e := heat.Bars(s.w, less)
		if e == api.OK && !contains(bars, fewer) {
			t.Errorf("%v: Bars grows from %v to %v with %v", s, bars, fewer, less)
		}
		ways, _ := heat.Ways(s.w, s.measured)
		left, e := heat.Ways(s.w, less)
		if e == api.OK && !slices.EqualFunc(ways, left, contains) {
			t.Errorf("%v: Ways grows from %v to %v with %v", s, ways, left, less)
		}
		had, _ := heat.Had(s.w, s.r, s.measured)
		narrow, e := heat.Had(s.w, s.r, less)
		if e == api.OK && !within(narrow, had) {
			t.Errorf("%v: Had grows from %v to %v with %v", s, had, narrow, less)
		}
	})
}

// P1.12 (harder)
func TestHarder(t *testing.T) {
	samples(t, func(t *testing.T, s sample) {
		before := ranges(t, s.w, s.r)
		bar := s.w.Bars[s.r.Bar]
		harder := rg(bar.Lo+s.from(0, 3), 0)
		harder.Hi = max(harder.Lo, bar.Hi) + s.from(0, 3)
		s.w.Bars[s.r.Bar] = harder
		for i, now := range ranges(t, s.w, s.r) {
			if now.Lo < before[i].Lo || now.Hi < before[i].Hi {
				t.Errorf("%v: a harder bar gives %v at %d, after %v", s, now, i, before[i])
			}
		}
		s.w.Bars[s.r.Bar] = rg(max(0, bar.Lo-s.from(0, 3)), bar.Hi+s.from(0, 3))
		if now := ranges(t, s.w, s.r); !within(before, now) {
			t.Errorf("%v: a wider bar gives %v, after %v", s, now, before)
		}
	})
}

// P1.13 (one after the other)
func TestOneAfterTheOther(t *testing.T) {
	samples(t, func(t *testing.T, s sample) {
		all := ranges(t, s.w, s.r)
		for cut := range len(s.w.Steps) + 1 {
			first := api.HeatWorks{Bars: s.w.Bars, Steps: s.w.Steps[:cut]}
			one := ranges(t, first, api.HeatRecipe{Bar: s.r.Bar, Ways: s.r.Ways[:cut]})
			other := api.HeatWorks{Bars: []api.Range{one[cut]}, Steps: s.w.Steps[cut:]}
			two := ranges(t, other, api.HeatRecipe{Bar: 0, Ways: s.r.Ways[cut:]})
			if !slices.Equal(one, all[:cut+1]) || !slices.Equal(two, all[cut:]) {
				t.Errorf("%v: %v and %v, cut at %d, are not %v", s, one, two, cut, all)
			}
		}
	})
}
