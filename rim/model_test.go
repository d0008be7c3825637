package rim_test

import (
	"fmt"
	"math/rand"
	"slices"
	"testing"

	"bolster/api"
	"bolster/rim"
)

// works is a stone with its pulleys.
type works struct {
	api.RimStone
	pulleys []int64
}

// text tells what works are, for a test that fails.
func (w works) text() string { return fmt.Sprint(w) }

// The model looks at each length, each truth, and each plan, as the chapter defines them.

// allowed reports whether a pulley is allowed at a length.
func (w works) allowed(pulley int, length int64) bool {
	for truth := length - w.Off; truth <= length+w.Off; truth++ {
		speed := truth * w.pulleys[pulley]
		if speed < w.Speed.Lo || speed > w.Speed.Hi {
			return false
		}
	}
	return true
}

// lengths returns all lengths at which a pulley is allowed, the greatest one first.
func (w works) lengths(pulley int) []int64 {
	var all []int64
	for m := w.Long; m >= w.Short; m-- {
		if w.allowed(pulley, m) {
			all = append(all, m)
		}
	}
	return all
}

// gap returns the greatest gap, or 0.
func (w works) gap() int64 {
	for m := w.Long; m >= w.Short; m-- {
		if !slices.ContainsFunc(w.indices(), func(p int) bool { return w.allowed(p, m) }) {
			return m
		}
	}
	return 0
}

func (w works) indices() []int {
	var all []int
	for p := range w.pulleys {
		all = append(all, p)
	}
	return all
}

// parts yields all right lists of runs that go from Long down to any length, with this length; the list changes.
func (w works) parts(yield func(plan []api.RimRun, down int64)) {
	var runs []api.RimRun
	var choose func(from int64)
	choose = func(from int64) {
		for p := range w.pulleys {
			runs = append(runs, api.RimRun{From: from, Pulley: p})
			for down := from; down >= w.Short && w.allowed(p, down); down-- {
				yield(runs, down)
				choose(down - 1)
			}
			runs = runs[:len(runs)-1]
		}
	}
	choose(w.Long)
}

// facts are all that there is to know of small works: how far so many runs go, how many runs a right plan has at least, and how many of these plans have each pulley.
type facts struct {
	far    map[int]int64
	fewest int
	plans  int
	having []int
	latest []int64
}

func (w works) facts() facts {
	f := facts{far: map[int]int64{}, having: make([]int, len(w.pulleys))}
	w.parts(func(plan []api.RimRun, down int64) {
		if far, ok := f.far[len(plan)]; !ok || down < far {
			f.far[len(plan)] = down
		}
		if down == w.Short {
			f.add(plan)
		}
	})
	return f
}

// add takes in a right plan.
func (f *facts) add(plan []api.RimRun) {
	for i, r := range plan {
		if i == len(f.latest) {
			f.latest = append(f.latest, r.From)
		}
		f.latest[i] = min(f.latest[i], r.From)
	}
	if f.fewest == 0 || len(plan) < f.fewest {
		f.fewest, f.plans = len(plan), 0
		clear(f.having)
	}
	if len(plan) == f.fewest {
		f.plans++
		for p := range f.having {
			if slices.ContainsFunc(plan, func(r api.RimRun) bool { return r.Pulley == p }) {
				f.having[p]++
			}
		}
	}
}

// kinds returns the kind of each pulley.
func (f facts) kinds() []int {
	var all []int
	for _, n := range f.having {
		switch n {
		case 0:
			all = append(all, api.RimNever)
		case f.plans:
			all = append(all, api.RimAlways)
		default:
			all = append(all, api.RimMay)
		}
	}
	return all
}

// plan returns what Plan has to return, if there is no gap.
func (w works) plan() []api.RimRun {
	var runs []api.RimRun
	for from := w.Long; from >= w.Short; {
		best, least := -1, from+1
		for p := range w.pulleys {
			if w.allowed(p, from) {
				all := w.lengths(p)
				if down := all[len(all)-1]; down < least {
					best, least = p, down
				}
			}
		}
		runs = append(runs, api.RimRun{From: from, Pulley: best})
		from = least - 1
	}
	return runs
}

// right reports whether a plan of valid runs is right, and from which to which speed the rim runs.
func (w works) right(plan []api.RimRun) (api.Range, bool) {
	speeds, right := rg(1<<62, 0), true
	for i, r := range plan {
		last := w.Short
		if i+1 < len(plan) {
			last = plan[i+1].From + 1
		}
		for m := r.From; m >= last; m-- {
			right = right && w.allowed(r.Pulley, m)
			turns := w.pulleys[r.Pulley]
			speeds = rg(min(speeds.Lo, (m-w.Off)*turns), max(speeds.Hi, (m+w.Off)*turns))
		}
	}
	return speeds, right
}

// apart reports whether no pulley is allowed at two points.
func (w works) apart(points []int64) bool {
	for p := range w.pulleys {
		n := 0
		for _, m := range points {
			if w.allowed(p, m) {
				n++
			}
		}
		if n > 1 {
			return false
		}
	}
	return true
}

// chance makes works that are always the same ones.
type chance struct{ *rand.Rand }

func (c chance) from(lo, hi int64) int64 { return lo + c.Int63n(hi-lo+1) }

// wide returns valid works with a stone up to so long, on which pulleys are allowed at many lengths.
func (c chance) wide(long int64, most int) works {
	var w works
	w.Long = c.from(long/2+1, long)
	w.Short = c.from(1, w.Long)
	w.Off = min(c.from(0, 1+w.Long/50), w.Short-1)
	turns := c.from(1, 40)
	w.Speed.Lo = c.from(0, w.Short*turns)
	w.Speed.Hi = w.Speed.Lo + c.from(0, w.Long*turns)
	for range 1 + c.Intn(most) {
		m := c.from(w.Short, w.Long)
		w.pulleys = append(w.pulleys, max(1, c.from(w.Speed.Lo, w.Speed.Hi)/m))
	}
	return w
}

// narrow returns valid works with a stone up to so long, on which each pulley is allowed at few lengths.
func (c chance) narrow(long int64, most int) works {
	var w works
	w.Long = c.from(long/2+1, long)
	w.Short = c.from(1, 1+w.Long/2)
	w.Off = min(c.from(0, w.Long/200), w.Short-1)
	w.Speed.Lo = w.Long * c.from(50, 100)
	w.Speed.Hi = w.Speed.Lo * c.from(110, 220) / 100
	n := int64(1 + c.Intn(most))
	for m := w.Long; m >= w.Short && n > 0; n-- {
		w.pulleys = append(w.pulleys, min(api.MaxRimTurns, c.from(w.Speed.Lo/m, w.Speed.Hi/m)))
		m = m * c.from(60, 95) / 100
	}
	c.Shuffle(len(w.pulleys), func(i, j int) { w.pulleys[i], w.pulleys[j] = w.pulleys[j], w.pulleys[i] })
	return w
}

// works returns works of one of both sorts.
func (c chance) works(long int64, most int) works {
	if c.Intn(2) == 0 {
		return c.wide(long, most)
	}
	return c.narrow(long, most)
}

// small returns works whose plans can be listed.
func (c chance) small() works {
	if c.Intn(2) == 0 {
		return c.wide(6, 4)
	}
	return c.narrow(14, 6)
}

// smallWorks runs a test for many works whose plans the model can list.
func smallWorks(t *testing.T, test func(c chance, w works)) {
	c := chance{rand.New(rand.NewSource(1))}
	for range 2000 {
		test(c, c.small())
		if t.Failed() {
			return
		}
	}
}

// wantRim returns the error of functions that return ErrRim if there is no right plan.
func wantRim(found bool) api.Errno {
	if found {
		return api.OK
	}
	return api.ErrRim
}

// P3.2, P3.4, P3.6, P3.7, P3.10, P3.11
func TestAsModel(t *testing.T) {
	whole, most := 0, 0
	smallWorks(t, func(c chance, w works) {
		f := w.facts()
		if f.fewest > 0 {
			whole++
		}
		most = max(most, f.fewest)
		gap, e := rim.Gap(w.RimStone, w.pulleys)
		if gap != w.gap() || (e == api.OK) != (gap > 0) || (e == api.ErrNone) != (f.fewest > 0) {
			t.Errorf("%s: Gap is %d, %d, not %d", w.text(), gap, e, w.gap())
		}
		kinds, e := rim.Kinds(w.RimStone, w.pulleys)
		if e != wantRim(f.fewest > 0) || e == api.OK && !slices.Equal(kinds, f.kinds()) {
			t.Errorf("%s: Kinds is %v, %d, not %v", w.text(), kinds, e, f.kinds())
		}
		plan, e := rim.Plan(w.RimStone, w.pulleys)
		if e != wantRim(f.fewest > 0) || len(plan) != f.fewest {
			t.Errorf("%s: Plan is %v, %d, not with %d runs", w.text(), plan, e, f.fewest)
			return
		}
		for i, r := range plan {
			if r.From != f.latest[i] {
				t.Errorf("%s: Plan is %v, but the run %d can begin at %d", w.text(), plan, i, f.latest[i])
			}
		}
		for runs := 1; runs <= api.MaxRimPasses; runs++ {
			want := int64(0)
			for n := 1; n <= runs; n++ {
				if far, ok := f.far[n]; ok && (want == 0 || far < want) {
					want = far
				}
			}
			if far, e := rim.Far(w.RimStone, w.pulleys, runs); far != want || e != wantRim(want > 0) {
				t.Errorf("%s: Far with %d runs is %d, %d, not %d", w.text(), runs, far, e, want)
			}
		}
	})
	if whole < 500 || whole > 1500 || most < 5 {
		t.Errorf("%d of 2000 works have a plan, of at most %d runs: too few tell something", whole, most)
	}
}

// P3.3, P3.5
func TestChecksAsModel(t *testing.T) {
	right, apart := 0, 0
	smallWorks(t, func(c chance, w works) {
		for range 5 {
			points := c.points(w)
			want := api.OK
			if !w.apart(points) {
				want = api.ErrSum
			} else if len(points) > 1 {
				apart++
			}
			if e := rim.CheckPoints(w.RimStone, w.pulleys, points); e != want {
				t.Errorf("%s: CheckPoints of %v is %d, not %d", w.text(), points, e, want)
			}
			plan := c.plan(w)
			speeds, ok := w.right(plan)
			if !ok {
				speeds = rg(0, 0)
			} else if len(plan) > 1 {
				right++
			}
			if e := rim.CheckPlan(w.RimStone, w.pulleys, plan); e != wantRim(ok) {
				t.Errorf("%s: CheckPlan of %v is %d", w.text(), plan, e)
			}
			if got, e := rim.Speeds(w.RimStone, w.pulleys, plan); got != speeds || e != wantRim(ok) {
				t.Errorf("%s: Speeds of %v is %v, %d, not %v", w.text(), plan, got, e, speeds)
			}
		}
	})
	if right < 500 || apart < 500 {
		t.Errorf("%d right plans and %d points apart: too few tell something", right, apart)
	}
}

// points returns some points.
func (c chance) points(w works) []int64 {
	var list []int64
	for m := w.Long; m >= w.Short; m-- {
		if c.Intn(3) == 0 {
			list = append(list, m)
		}
	}
	return list
}

// plan returns some plan, often one whose pulleys are allowed where they begin.
func (c chance) plan(w works) []api.RimRun {
	var runs []api.RimRun
	for m := w.Long; m >= w.Short; m-- {
		if m < w.Long && c.Intn(4) > 0 {
			continue
		}
		p := c.Intn(len(w.pulleys))
		for range 5 {
			if !w.allowed(p, m) {
				p = c.Intn(len(w.pulleys))
			}
		}
		runs = append(runs, api.RimRun{From: m, Pulley: p})
	}
	return runs
}

// P3.2, P3.4, P3.5, P3.6 for works of a middle size
func TestLargerAsModel(t *testing.T) {
	c := chance{rand.New(rand.NewSource(2))}
	whole, most := 0, 0
	for range 1500 {
		w := c.works(60, api.MaxRimPulleys)
		for p := range w.pulleys {
			want, e := w.lengths(p), api.OK
			r := api.Range{}
			if len(want) == 0 {
				e = api.ErrNone
			} else {
				r = rg(want[len(want)-1], want[0])
			}
			if got, e1 := rim.Allowed(w.RimStone, w.pulleys, p); got != r || e1 != e {
				t.Fatalf("%s: Allowed of %d is %v, %d, not %v", w.text(), p, got, e1, want)
			}
		}
		if gap, _ := rim.Gap(w.RimStone, w.pulleys); gap != w.gap() {
			t.Fatalf("%s: Gap is %d, not %d", w.text(), gap, w.gap())
		}
		if w.gap() > 0 {
			continue
		}
		whole++
		want := w.plan()
		most = max(most, len(want))
		plan, e := rim.Plan(w.RimStone, w.pulleys)
		if !slices.Equal(plan, want) || e != api.OK {
			t.Fatalf("%s: Plan is %v, %d, not %v", w.text(), plan, e, want)
		}
		points, e := rim.Points(w.RimStone, w.pulleys)
		if !slices.Equal(points, froms(want)) || e != api.OK {
			t.Fatalf("%s: Points is %v, %d, not %v", w.text(), points, e, want)
		}
	}
	if whole < 300 || most < 6 {
		t.Errorf("%d of 1500 works have a plan, of at most %d runs: too few tell something", whole, most)
	}
}

func froms(plan []api.RimRun) []int64 {
	var list []int64
	for _, r := range plan {
		list = append(list, r.From)
	}
	return list
}
