package rim_test

import (
	"math/rand"
	"slices"
	"testing"

	"bolster/api"
	"bolster/rim"
)

// wholeWorks runs a test for many works of all sizes without a gap, and tells it their plan.
func wholeWorks(t *testing.T, n int, test func(c chance, w works, plan []api.RimRun)) {
	c := chance{rand.New(rand.NewSource(3))}
	tested := 0
	for range n {
		w := c.works([]int64{10, 100, 5000, 20000}[c.Intn(4)], api.MaxRimPulleys)
		if plan, e := rim.Plan(w.RimStone, w.pulleys); e == api.OK {
			tested++
			test(c, w, plan)
		}
		if t.Failed() {
			return
		}
	}
	if tested < n/5 {
		t.Errorf("%d of %d works have a plan: too few tell something", tested, n)
	}
}

// P3.8, P3.9, P3.4 (no pulley comes twice)
func TestKeptAndProved(t *testing.T) {
	wholeWorks(t, 3000, func(c chance, w works, plan []api.RimRun) {
		if e := rim.CheckPlan(w.RimStone, w.pulleys, plan); e != api.OK {
			t.Errorf("%s: CheckPlan of Plan is %d", w.text(), e)
		}
		speeds, e := rim.Speeds(w.RimStone, w.pulleys, plan)
		if e != api.OK || speeds.Lo < w.Speed.Lo || speeds.Hi > w.Speed.Hi || speeds.Lo > speeds.Hi {
			t.Errorf("%s: Speeds of Plan is %v, %d", w.text(), speeds, e)
		}
		points, e := rim.Points(w.RimStone, w.pulleys)
		if len(points) != len(plan) || e != api.OK || rim.CheckPoints(w.RimStone, w.pulleys, points) != api.OK {
			t.Errorf("%s: Points is %v, %d, which stand apart: %d", w.text(), points, e, rim.CheckPoints(w.RimStone, w.pulleys, points))
		}
		seen := map[int]bool{}
		for _, r := range plan {
			seen[r.Pulley] = true
		}
		if len(seen) != len(plan) {
			t.Errorf("%s: a pulley comes twice in %v", w.text(), plan)
		}
	})
}

// P3.6
func TestFarAsPlan(t *testing.T) {
	wholeWorks(t, 2000, func(c chance, w works, plan []api.RimRun) {
		for runs := 1; runs <= api.MaxRimPasses; runs++ {
			want := w.Short
			if runs < len(plan) {
				want = plan[runs].From + 1
			}
			if far, e := rim.Far(w.RimStone, w.pulleys, runs); far != want || e != api.OK {
				t.Errorf("%s: Far with %d runs is %d, %d, not %d", w.text(), runs, far, e, want)
			}
		}
	})
}

// P3.11
func TestEither(t *testing.T) {
	c := chance{rand.New(rand.NewSource(4))}
	for range 3000 {
		w := c.works(5000, api.MaxRimPulleys)
		_, e1 := rim.Gap(w.RimStone, w.pulleys)
		_, e2 := rim.Plan(w.RimStone, w.pulleys)
		if (e1 == api.OK) != (e2 == api.ErrRim) || (e1 == api.ErrNone) != (e2 == api.OK) {
			t.Fatalf("%s: Gap and Plan are %d and %d", w.text(), e1, e2)
		}
	}
}

// eased returns works changed so that no more runs can be needed.
func (c chance) eased(w works) works {
	switch c.Intn(6) {
	case 0:
		w.pulleys = append(slices.Clone(w.pulleys), c.from(1, api.MaxRimTurns))
	case 1:
		w.Speed.Lo -= min(w.Speed.Lo, c.from(0, 1000))
	case 2:
		w.Speed.Hi += c.from(0, 1000)
	case 3:
		w.Off -= min(w.Off, c.from(0, 3))
	case 4:
		w.Short = c.from(w.Short, w.Long)
	case 5:
		w.Long = c.from(w.Short, w.Long)
	}
	return w
}

// P3.12 (more)
func TestMore(t *testing.T) {
	fewer := 0
	wholeWorks(t, 5000, func(c chance, w works, plan []api.RimRun) {
		if more := c.eased(w); len(more.pulleys) <= api.MaxRimPulleys {
			now, e := rim.Plan(more.RimStone, more.pulleys)
			if e != api.OK || len(now) > len(plan) {
				t.Errorf("%s: the plan is %v; eased to %s: %v, %d", w.text(), plan, more.text(), now, e)
			}
			if len(now) < len(plan) {
				fewer++
			}
		}
	})
	if fewer < 100 {
		t.Errorf("%d plans have fewer runs: too few tell something", fewer)
	}
}

// P3.12 (less)
func TestLess(t *testing.T) {
	kinds := map[int]int{}
	wholeWorks(t, 3000, func(c chance, w works, plan []api.RimRun) {
		all, e := rim.Kinds(w.RimStone, w.pulleys)
		if len(all) != len(w.pulleys) || e != api.OK {
			t.Errorf("%s: Kinds is %v, %d", w.text(), all, e)
			return
		}
		for p, kind := range all {
			kinds[kind]++
			if len(w.pulleys) == 1 {
				continue
			}
			now, e := rim.Plan(w.RimStone, slices.Delete(slices.Clone(w.pulleys), p, p+1))
			same := e == api.OK && len(now) == len(plan)
			if same == (kind == api.RimAlways) || e == api.OK && len(now) < len(plan) {
				t.Errorf("%s: the pulley %d is of the kind %d; without it the plan is %v, %d", w.text(), p, kind, now, e)
			}
		}
	})
	if kinds[api.RimNever] < 200 || kinds[api.RimMay] < 200 || kinds[api.RimAlways] < 200 {
		t.Errorf("kinds are %v: too few tell something", kinds)
	}
}

// P3.13
func TestTimes(t *testing.T) {
	c := chance{rand.New(rand.NewSource(6))}
	for range 3000 {
		w := c.works(1000, api.MaxRimPulleys)
		times := c.from(1, 100)
		v := works{RimStone: w.RimStone}
		v.Speed = rg(w.Speed.Lo*times, w.Speed.Hi*times)
		for _, turns := range w.pulleys {
			v.pulleys = append(v.pulleys, turns*times)
		}
		if rim.CheckStone(v.RimStone, v.pulleys) != api.OK {
			continue
		}
		for p := range w.pulleys {
			a, e1 := rim.Allowed(w.RimStone, w.pulleys, p)
			b, e2 := rim.Allowed(v.RimStone, v.pulleys, p)
			if a != b || e1 != e2 {
				t.Fatalf("%s: the pulley %d is allowed %v, %d; times %d: %v, %d", w.text(), p, a, e1, times, b, e2)
			}
		}
	}
}
