package pass_test

import (
	"cmp"
	"fmt"
	"math/rand"
	"slices"
	"testing"

	"bolster/api"
	"bolster/pass"
)

// manyJobs runs a test for so many jobs of all sizes, and tells it how hot a best order becomes.
func manyJobs(t *testing.T, n int, test func(c chance, j job, best int64)) {
	c := chance{rand.New(rand.NewSource(2))}
	for range n {
		j := c.job(api.MaxPassRows, api.MaxPassLong, []int64{5, 100, api.MaxPassHeat}[c.Intn(3)])
		if c.Intn(3) == 0 {
			j = c.warming()
		}
		_, best, e := pass.Best(j.PassJob)
		if e != api.OK {
			t.Errorf("%s: Best is %d", j.text(), e)
		}
		test(c, j, best)
		if t.Failed() {
			return
		}
	}
}

// warming returns a job of all sizes that dips seldom, so that many steps wait.
func (c chance) warming() job {
	j := c.job(api.MaxPassRows, api.MaxPassLong, 50)
	for _, passes := range j.Rows {
		for i := range passes {
			if c.Intn(5) > 0 {
				passes[i].Leaves = c.from(0, passes[i].Peak)
			}
		}
	}
	return j
}

// order returns some order.
func (c chance) order(j job) []int {
	var order []int
	for row, passes := range j.Rows {
		order = append(order, slices.Repeat(of(row), len(passes))...)
	}
	c.Shuffle(len(order), func(i, k int) { order[i], order[k] = order[k], order[i] })
	return order
}

// P4.9, P4.6 (no position comes twice)
func TestProved(t *testing.T) {
	longest := 0
	manyJobs(t, 300, func(c chance, j job, best int64) {
		order, _, _ := pass.Best(j.PassJob)
		if heat, e := pass.CheckOrder(j.PassJob, order); heat != best || e != api.OK || j.becomes(order) != best {
			t.Errorf("%s: Best is %v, %d, but CheckOrder of it %d, %d", j.text(), order, best, heat, e)
		}
		barrier, e := pass.Barrier(j.PassJob)
		if e != api.OK {
			t.Errorf("%s: Barrier is %d", j.text(), e)
		}
		if bound, e := pass.CheckBarrier(j.PassJob, barrier); bound != best || e != api.OK {
			t.Errorf("%s: the bound of Barrier is %d, %d, not %d", j.text(), bound, e, best)
		}
		longest = max(longest, len(barrier))
		seen := map[string]bool{}
		for _, p := range barrier {
			seen[fmt.Sprint(p)] = true
		}
		if len(seen) != len(barrier) {
			t.Errorf("%s: a position comes twice in %v", j.text(), barrier)
		}
		for range 3 {
			bound, e := pass.CheckBarrier(j.PassJob, c.barrier(j))
			if bound > best || e != api.OK {
				t.Errorf("%s: some barrier has the bound %d, %d, above %d", j.text(), bound, e, best)
			}
			order := c.order(j)
			if heat, e := pass.CheckOrder(j.PassJob, order); heat < best || e != api.OK {
				t.Errorf("%s: %v becomes %d hot, %d, below %d", j.text(), order, heat, e, best)
			}
		}
	})
	if longest < 500 {
		t.Errorf("a barrier has at most %d positions: too few tell something", longest)
	}
}

// contains reports whether a range contains another one.
func contains(r, other api.Range) bool { return r.Lo <= other.Lo && other.Hi <= r.Hi }

// P4.10
func TestLimits(t *testing.T) {
	more := 0
	manyJobs(t, 150, func(c chance, j job, best int64) {
		names := j.names()
		one, two := names[c.Intn(len(names))], names[c.Intn(len(names))]
		last, must, range1 := int64(0), true, rg(1, 0)
		for _, limit := range []int64{best - 1, best, best + c.from(1, 20), best + c.from(20, 60), best + 30000} {
			n, e1 := pass.Count(j.PassJob, limit)
			if (n > 0) != (limit >= best) || n < last || e1 != api.OK {
				t.Errorf("%s: Count with %d is %d, %d; it was %d; the best is %d", j.text(), limit, n, e1, last, best)
			}
			m, e2 := pass.Must(j.PassJob, limit, one, two)
			r, e3 := pass.Before(j.PassJob, limit, one)
			if limit < best {
				if e2 != api.ErrBlue || e3 != api.ErrBlue {
					t.Errorf("%s: Must and Before with %d are %d, %d", j.text(), limit, e2, e3)
				}
				continue
			}
			if e2 != api.OK || e3 != api.OK || m && !must || range1.Lo <= range1.Hi && !contains(r, range1) || r.Lo > r.Hi {
				t.Errorf("%s: with %d, Must of %v, %v is %t, %d after %t, Before %v, %d after %v", j.text(), limit, one, two, m, e2, must, r, e3, range1)
			}
			if n > last && last > 0 {
				more++
			}
			last, must, range1 = n, m, r
		}
		if both, _ := pass.Must(j.PassJob, best, two, one); must && both {
			t.Errorf("%s: %v and %v must come before each other", j.text(), one, two)
		}
	})
	if more < 100 {
		t.Errorf("%d limits have more orders: too few tell something", more)
	}
}

// turned returns a job that is turned round.
func (j job) turned() job {
	back := job{api.PassJob{Start: j.heat(j.lastPosition())}}
	for _, passes := range j.Rows {
		var row []api.PassPass
		for _, p := range slices.Backward(passes) {
			row = append(row, api.PassPass{Peak: p.Peak - p.Leaves, Leaves: -p.Leaves})
		}
		back.Rows = append(back.Rows, row)
	}
	return back
}

// P4.11
func TestTurnedRound(t *testing.T) {
	tested := 0
	manyJobs(t, 600, func(c chance, j job, best int64) {
		back := j.turned()
		if pass.CheckJob(back.PassJob) != api.OK {
			return
		}
		tested++
		if _, heat, e := pass.Best(back.PassJob); heat != best || e != api.OK {
			t.Errorf("%s: Best turned round is %d, %d, not %d", j.text(), heat, e, best)
		}
		order := c.order(j)
		one, e1 := pass.CheckOrder(j.PassJob, order)
		slices.Reverse(order)
		two, e2 := pass.CheckOrder(back.PassJob, order)
		if one != two || e1 != api.OK || e2 != api.OK {
			t.Errorf("%s: an order becomes %d hot, %d, and %d, %d turned round", j.text(), one, e1, two, e2)
		}
		limit := best + c.from(0, 50)
		n1, _ := pass.Count(j.PassJob, limit)
		n2, _ := pass.Count(back.PassJob, limit)
		if n1 != n2 {
			t.Errorf("%s: Count with %d is %d, and %d turned round", j.text(), limit, n1, n2)
		}
	})
	if tested < 200 {
		t.Errorf("%d jobs can be turned round: too few tell something", tested)
	}
}

// P4.12
func TestFree(t *testing.T) {
	c := chance{rand.New(rand.NewSource(3))}
	for range 2000 {
		j := c.job(api.MaxPassRows, 1, []int64{5, 100, api.MaxPassHeat}[c.Intn(3)])
		var cooling, others []int
		for row, passes := range j.Rows {
			if passes[0].Leaves <= 0 {
				cooling = append(cooling, row)
			} else {
				others = append(others, row)
			}
		}
		slices.SortFunc(cooling, func(a, b int) int { return cmp.Compare(j.Rows[a][0].Peak, j.Rows[b][0].Peak) })
		less := func(row int) int64 { return j.Rows[row][0].Peak - j.Rows[row][0].Leaves }
		slices.SortFunc(others, func(a, b int) int { return cmp.Compare(less(b), less(a)) })
		order := append(cooling, others...)
		heat, e := pass.CheckOrder(j.PassJob, order)
		if _, best, _ := pass.Best(j.PassJob); heat != best || e != api.OK {
			t.Fatalf("%s: %v becomes %d hot, %d, and Best %d", j.text(), order, heat, e, best)
		}
	}
}

// P4.13
func TestShifted(t *testing.T) {
	more := 0
	manyJobs(t, 300, func(c chance, j job, best int64) {
		by := c.from(-api.MaxPassHeat-j.Start, api.MaxPassHeat-j.Start)
		hot := job{api.PassJob{Start: j.Start + by, Rows: j.Rows}}
		if _, heat, e := pass.Best(hot.PassJob); heat != best+by || e != api.OK {
			t.Errorf("%s: Best is %d, and hotter by %d: %d, %d", j.text(), best, by, heat, e)
		}
		order := c.order(j)
		one, _ := pass.CheckOrder(j.PassJob, order)
		if two, e := pass.CheckOrder(hot.PassJob, order); two != one+by || e != api.OK {
			t.Errorf("%s: %v becomes %d hot, and hotter by %d: %d, %d", j.text(), order, one, by, two, e)
		}
		if len(j.Rows) == api.MaxPassRows {
			return
		}
		var edge []api.PassPass
		for range 1 + c.Intn(api.MaxPassLong) {
			peak := c.from(0, api.MaxPassHeat)
			edge = append(edge, api.PassPass{Peak: peak, Leaves: c.from(0, peak)})
		}
		wide := job{api.PassJob{Start: j.Start, Rows: slices.Insert(slices.Clone(j.Rows), c.Intn(len(j.Rows)+1), edge)}}
		_, heat, e := pass.Best(wide.PassJob)
		if heat < best || e != api.OK {
			t.Errorf("%s: Best is %d; with the edge %v more: %d, %d", j.text(), best, edge, heat, e)
		}
		if heat > best {
			more++
		}
	})
	if more < 50 {
		t.Errorf("%d jobs become hotter with an edge more: too few tell something", more)
	}
}
