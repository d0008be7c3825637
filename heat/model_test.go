package heat_test

import (
	"fmt"
	"math/rand"
	"slices"
	"testing"

	"bolster/api"
	"bolster/heat"
)

// The model computes hardness by hardness, and recipe by recipe, as the chapter defines them.

// set is the hardnesses that can be had.
type set map[int64]bool

func setOf(r api.Range) set {
	s := set{}
	for h := r.Lo; h <= r.Hi; h++ {
		s[h] = true
	}
	return s
}

// ends returns the least and the greatest number of a set that is not empty.
func (s set) ends() api.Range {
	var list []int64
	for h := range s {
		list = append(list, h)
	}
	return rg(slices.Min(list), slices.Max(list))
}

// modelAfter returns the After of the last kink whose From is at most hard.
func modelAfter(w api.HeatWay, hard int64) api.Range {
	for i := len(w.Kinks) - 1; i >= 0; i-- {
		if w.Kinks[i].From <= hard {
			return w.Kinks[i].After
		}
	}
	panic("a way without a kink from 0")
}

// modelHad returns the hardnesses of all histories that agree with what was measured, or nil if there is none.
func modelHad(w api.HeatWorks, r api.HeatRecipe, measured api.Range) []set {
	sets := []set{setOf(w.Bars[r.Bar])}
	for i, way := range r.Ways {
		next := set{}
		for h := range sets[i] {
			for x := range setOf(modelAfter(w.Steps[i].Ways[way], h)) {
				next[x] = true
			}
		}
		sets = append(sets, next)
	}
	leads := setOf(measured)
	for i := len(sets) - 1; i >= 0; i-- {
		for h := range sets[i] {
			if !leads[h] {
				delete(sets[i], h)
			}
		}
		if i == 0 {
			break
		}
		leads = set{}
		for h := range sets[i-1] {
			for x := range setOf(modelAfter(w.Steps[i-1].Ways[r.Ways[i-1]], h)) {
				leads[h] = leads[h] || sets[i][x]
			}
		}
	}
	if len(sets[0]) == 0 {
		return nil
	}
	return sets
}

// recipes returns all recipes of a works.
func recipes(w api.HeatWorks) []api.HeatRecipe {
	var all []api.HeatRecipe
	for bar := range w.Bars {
		all = append(all, api.HeatRecipe{Bar: bar})
	}
	for _, s := range w.Steps {
		var longer []api.HeatRecipe
		for _, r := range all {
			for way := range s.Ways {
				longer = append(longer, api.HeatRecipe{Bar: r.Bar, Ways: append(slices.Clone(r.Ways), way)})
			}
		}
		all = longer
	}
	return all
}

// modelMakers returns how many recipes can have made a blade, and how many of them have each bar, and each way of each step.
func modelMakers(w api.HeatWorks, measured api.Range) (int, [][]int) {
	by := [][]int{make([]int, len(w.Bars))}
	for _, s := range w.Steps {
		by = append(by, make([]int, len(s.Ways)))
	}
	total := 0
	for _, r := range recipes(w) {
		if modelHad(w, r, measured) == nil {
			continue
		}
		total++
		by[0][r.Bar]++
		for i, way := range r.Ways {
			by[i+1][way]++
		}
	}
	return total, by
}

// above0 returns the indices of the numbers above 0.
func above0(numbers []int) []int {
	var list []int
	for i, n := range numbers {
		if n > 0 {
			list = append(list, i)
		}
	}
	return list
}

// modelAsk returns what to ask for, and how many recipes are left at worst then.
func modelAsk(by [][]int) (int, int) {
	at := 0
	for i := range by {
		if slices.Max(by[i]) < slices.Max(by[at]) {
			at = i
		}
	}
	return at - 1, slices.Max(by[at])
}

// chance makes works that are always the same ones.
type chance struct{ *rand.Rand }

func (c chance) from(lo, hi int64) int64 { return lo + c.Int63n(hi-lo+1) }

// somewhere returns a range with ends from 0 to top.
func (c chance) somewhere(top int64) api.Range {
	a, b := c.from(0, top), c.from(0, top)
	return rg(min(a, b), max(a, b))
}

// valid returns a valid way with hardnesses up to top, often one whose kinks just do not leave out a hardness.
func (c chance) valid(top int64) api.HeatWay {
	after := c.somewhere(top)
	w := way(0, after.Lo, after.Hi)
	from := int64(0)
	for range c.Intn(4) {
		from += c.from(1, 1+top/3)
		lo := c.from(after.Lo, min(after.Hi+1, top))
		if c.Intn(2) == 0 {
			lo = min(after.Hi+1, top)
		}
		hi := max(lo, after.Hi)
		after = rg(lo, c.from(hi, max(hi, min(top, hi+2))))
		w.Kinks = append(w.Kinks, api.HeatKink{From: from, After: after})
	}
	return w
}

// works returns a valid works with hardnesses up to top.
func (c chance) works(top int64) api.HeatWorks {
	var w api.HeatWorks
	for range 1 + c.Intn(3) {
		bar := c.somewhere(top)
		bar.Hi = min(bar.Hi, bar.Lo+c.from(0, top/2))
		w.Bars = append(w.Bars, bar)
	}
	for range c.Intn(4) {
		var s api.HeatStep
		for range 1 + c.Intn(3) {
			s.Ways = append(s.Ways, c.valid(top))
		}
		w.Steps = append(w.Steps, s)
	}
	return w
}

// recipe returns some recipe of a works.
func (c chance) recipe(w api.HeatWorks) api.HeatRecipe {
	r := api.HeatRecipe{Bar: c.Intn(len(w.Bars))}
	for _, s := range w.Steps {
		r.Ways = append(r.Ways, c.Intn(len(s.Ways)))
	}
	return r
}

// history returns some history of a recipe.
func (c chance) history(w api.HeatWorks, r api.HeatRecipe) []int64 {
	h := []int64{c.from(w.Bars[r.Bar].Lo, w.Bars[r.Bar].Hi)}
	for i, way := range r.Ways {
		after := modelAfter(w.Steps[i].Ways[way], h[i])
		h = append(h, c.from(after.Lo, after.Hi))
	}
	return h
}

// sample is a works, a recipe of it, and what was measured.
type sample struct {
	chance
	w        api.HeatWorks
	r        api.HeatRecipe
	measured api.Range
}

func (s sample) String() string { return fmt.Sprint(s.w, s.r, s.measured) }

// samples runs a test for many samples.
func samples(t *testing.T, test func(t *testing.T, s sample)) {
	c := chance{rand.New(rand.NewSource(1))}
	for i := range 600 {
		top := []int64{3, 9, 20}[i%3]
		w := c.works(top)
		for _, way := range w.Steps {
			for _, x := range way.Ways {
				if e := heat.CheckWay(x); e != api.OK {
					t.Fatalf("CheckWay of %v is %d", x, e)
				}
			}
		}
		measured := c.somewhere(top)
		if i%2 == 0 {
			measured.Hi = measured.Lo
		}
		test(t, sample{c, w, c.recipe(w), measured})
		if t.Failed() {
			return
		}
	}
}

// P1.3, P1.4, P1.5
func TestRecipeAsModel(t *testing.T) {
	samples(t, func(t *testing.T, s sample) {
		checkEnds(t, s, modelHad(s.w, s.r, rg(0, 1000)), func() ([]api.Range, api.Errno) { return heat.Ranges(s.w, s.r) })
		want := modelHad(s.w, s.r, s.measured)
		checkEnds(t, s, want, func() ([]api.Range, api.Errno) { return heat.Had(s.w, s.r, s.measured) })
		h, e := heat.History(s.w, s.r, s.measured)
		if want == nil {
			if len(h) != 0 || e != api.ErrSoft {
				t.Errorf("%v: History is %v, %d", s, h, e)
			}
			return
		}
		if e != api.OK || !isHistory(s.w, s.r, h) || !setOf(s.measured)[h[len(h)-1]] {
			t.Errorf("%v: History is %v, %d", s, h, e)
		}
	})
}

// checkEnds checks that a function returns the ends of sets, or ErrSoft if there are none.
func checkEnds(t *testing.T, s sample, want []set, call func() ([]api.Range, api.Errno)) {
	t.Helper()
	got, e := call()
	if want == nil {
		if len(got) != 0 || e != api.ErrSoft {
			t.Errorf("%v: %v, %d instead of ErrSoft", s, got, e)
		}
		return
	}
	if len(got) != len(want) || e != api.OK {
		t.Errorf("%v: %v, %d", s, got, e)
		return
	}
	for i := range want {
		if got[i] != want[i].ends() {
			t.Errorf("%v: %v at %d instead of %v", s, got, i, want[i].ends())
		}
	}
}

// isHistory reports whether hardnesses are a history, as the chapter defines it.
func isHistory(w api.HeatWorks, r api.HeatRecipe, h []int64) bool {
	if len(h) != len(w.Steps)+1 || !setOf(w.Bars[r.Bar])[h[0]] {
		return false
	}
	for i, way := range r.Ways {
		if !setOf(modelAfter(w.Steps[i].Ways[way], h[i]))[h[i+1]] {
			return false
		}
	}
	return true
}

// P1.4
func TestCheckHistoryAsModel(t *testing.T) {
	samples(t, func(t *testing.T, s sample) {
		h := s.history(s.w, s.r)
		if e := heat.CheckHistory(s.w, s.r, h); e != api.OK {
			t.Errorf("%v: CheckHistory of %v is %d", s, h, e)
		}
		for range 5 {
			h[s.Intn(len(h))] += s.from(-2, 2)
			want := api.ErrRule
			if isHistory(s.w, s.r, h) {
				want = api.OK
			}
			if e := heat.CheckHistory(s.w, s.r, h); e != want {
				t.Errorf("%v: CheckHistory of %v is %d, not %d", s, h, e, want)
			}
		}
	})
}

// P1.6, P1.7, P1.8
func TestMakersAsModel(t *testing.T) {
	samples(t, func(t *testing.T, s sample) {
		total, by := modelMakers(s.w, s.measured)
		want := api.OK
		if total == 0 {
			want = api.ErrSoft
		}
		if n, e := heat.Count(s.w, s.measured); n != total || e != api.OK {
			t.Errorf("%v: Count is %d, %d, not %d", s, n, e, total)
		}
		if got, e := heat.Bars(s.w, s.measured); !slices.Equal(got, above0(by[0])) || e != want {
			t.Errorf("%v: Bars is %v, %d, not %v", s, got, e, by[0])
		}
		ways, e := heat.Ways(s.w, s.measured)
		if e != want || want != api.OK && len(ways) != 0 || want == api.OK && len(ways) != len(s.w.Steps) {
			t.Errorf("%v: Ways is %v, %d", s, ways, e)
		}
		for i, got := range ways {
			if !slices.Equal(got, above0(by[i+1])) {
				t.Errorf("%v: Ways is %v of step %d, not %v", s, got, i, by[i+1])
			}
		}
		wantAt, wantLeft := 0, 0
		if total > 0 {
			wantAt, wantLeft = modelAsk(by)
		}
		if at, left, e := heat.Ask(s.w, s.measured); at != wantAt || left != wantLeft || e != want {
			t.Errorf("%v: Ask is %d, %d, %d, not %d, %d", s, at, left, e, wantAt, wantLeft)
		}
	})
}
