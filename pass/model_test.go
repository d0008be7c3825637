package pass_test

import (
	"fmt"
	"math"
	"math/rand"
	"slices"
	"testing"

	"bolster/api"
	"bolster/pass"
)

// The model looks at each order, and each position, as the chapter defines them.

// job is a job of which the model tells everything.
type job struct{ api.PassJob }

// text tells what a job is, for a test that fails.
func (j job) text() string { return fmt.Sprint(j.Start, " ", j.Rows) }

// heat returns the heat of a position.
func (j job) heat(position []int) int64 {
	heat := j.Start
	for row, done := range position {
		for i := 0; i < done; i++ {
			heat += j.Rows[row][i].Leaves
		}
	}
	return heat
}

// firstPosition and lastPosition return these positions.
func (j job) firstPosition() []int { return make([]int, len(j.Rows)) }
func (j job) lastPosition() []int {
	var all []int
	for _, passes := range j.Rows {
		all = append(all, len(passes))
	}
	return all
}

// positions returns all positions.
func (j job) positions() [][]int {
	all := [][]int{{}}
	for _, passes := range j.Rows {
		var longer [][]int
		for _, p := range all {
			for n := 0; n <= len(passes); n++ {
				longer = append(longer, append(slices.Clone(p), n))
			}
		}
		all = longer
	}
	return all
}

// heats returns the heat of each step of an order, and the heat before it.
func (j job) heats(order []int) (steps, before []int64) {
	at := j.firstPosition()
	for _, row := range order {
		heat := j.heat(at)
		before = append(before, heat)
		steps = append(steps, heat+j.Rows[row][at[row]].Peak)
		at[row]++
	}
	return steps, before
}

// becomes returns how hot it becomes in an order.
func (j job) becomes(order []int) int64 {
	steps, _ := j.heats(order)
	return slices.Max(steps)
}

// orders returns all orders.
func (j job) orders() [][]int {
	var all [][]int
	var order []int
	at, last := j.firstPosition(), j.lastPosition()
	var choose func()
	choose = func() {
		if slices.Equal(at, last) {
			all = append(all, slices.Clone(order))
		}
		for row := range at {
			if at[row] < last[row] {
				at[row]++
				order = append(order, row)
				choose()
				order = order[:len(order)-1]
				at[row]--
			}
		}
	}
	choose()
	return all
}

// fact is what there is to know of an order.
type fact struct {
	order  []int
	heat   int64
	before map[api.PassName]int64
	at     map[api.PassName]int
}

// facts returns what there is to know of each order.
func (j job) facts() []fact {
	var all []fact
	for _, order := range j.orders() {
		_, before := j.heats(order)
		f := fact{order, j.becomes(order), map[api.PassName]int64{}, map[api.PassName]int{}}
		done := j.firstPosition()
		for i, row := range order {
			name := api.PassName{Row: row, Index: done[row]}
			f.before[name], f.at[name] = before[i], i
			done[row]++
		}
		all = append(all, f)
	}
	return all
}

// names returns the names of all passes.
func (j job) names() []api.PassName {
	var all []api.PassName
	for row, passes := range j.Rows {
		for i := range passes {
			all = append(all, api.PassName{Row: row, Index: i})
		}
	}
	return all
}

// bound returns the bound of a barrier.
func (j job) bound(barrier [][]int) int64 {
	least := int64(math.MaxInt64)
	for _, p := range barrier {
		for row := range p {
			if p[row] == len(j.Rows[row]) {
				continue
			}
			to := slices.Clone(p)
			to[row]++
			if !slices.ContainsFunc(barrier, func(q []int) bool { return slices.Equal(q, to) }) {
				least = min(least, j.heat(p)+j.Rows[row][p[row]].Peak)
			}
		}
	}
	return least
}

// chance makes jobs that are always the same ones.
type chance struct{ *rand.Rand }

func (c chance) from(lo, hi int64) int64 { return lo + c.Int63n(hi-lo+1) }

// pass returns a pass with a Peak up to most.
func (c chance) pass(most int64) api.PassPass {
	peak := c.from(0, most)
	return api.PassPass{Peak: peak, Leaves: c.from(-most, peak)}
}

// job returns a valid job of up to so many edges and passes of each, with a Peak up to most.
func (c chance) job(rows, long int, most int64) job {
	j := job{api.PassJob{Start: c.from(-most, most)}}
	for range 1 + c.Intn(rows) {
		var passes []api.PassPass
		for range 1 + c.Intn(long) {
			passes = append(passes, c.pass(most))
		}
		j.Rows = append(j.Rows, passes)
	}
	return j
}

// small returns a job whose orders can be listed.
func (c chance) small() job {
	most := []int64{2, 10, 1000}[c.Intn(3)]
	switch c.Intn(4) {
	case 0:
		return c.job(4, 2, most)
	case 1:
		return c.job(3, 3, most)
	case 2:
		return c.job(2, 5, most)
	default:
		return c.job(1, 6, most)
	}
}

// smallJobs runs a test for many jobs whose orders the model lists.
func smallJobs(t *testing.T, test func(c chance, j job, all []fact)) {
	c := chance{rand.New(rand.NewSource(1))}
	for range 400 {
		j := c.small()
		test(c, j, j.facts())
		if t.Failed() {
			return
		}
	}
}

// limits returns limits that tell something of a job: some that orders just keep, and others around them.
func (c chance) limits(all []fact) []int64 {
	best := leastHot(all)
	some := all[c.Intn(len(all))].heat
	return []int64{math.MinInt64, best - 1, best, best + 1, some - 1, some, math.MaxInt64}
}

// leastHot returns how hot a best order becomes.
func leastHot(all []fact) int64 {
	least := all[0].heat
	for _, f := range all {
		least = min(least, f.heat)
	}
	return least
}

// staying returns the orders that stay within a limit.
func staying(all []fact, limit int64) []fact {
	var some []fact
	for _, f := range all {
		if f.heat <= limit {
			some = append(some, f)
		}
	}
	return some
}

// P4.2
func TestHeatAsModel(t *testing.T) {
	smallJobs(t, func(c chance, j job, all []fact) {
		for _, p := range j.positions() {
			if heat, e := pass.Heat(j.PassJob, p); heat != j.heat(p) || e != api.OK {
				t.Errorf("%s: Heat at %v is %d, %d, not %d", j.text(), p, heat, e, j.heat(p))
			}
		}
	})
}

// P4.3, P4.4
func TestOrdersAsModel(t *testing.T) {
	smallJobs(t, func(c chance, j job, all []fact) {
		limits := c.limits(all)
		for _, f := range all {
			if heat, e := pass.CheckOrder(j.PassJob, f.order); heat != f.heat || e != api.OK {
				t.Errorf("%s: CheckOrder of %v is %d, %d, not %d", j.text(), f.order, heat, e, f.heat)
			}
			steps, _ := j.heats(f.order)
			for _, limit := range limits {
				want, e := slices.IndexFunc(steps, func(heat int64) bool { return heat > limit }), api.OK
				if want < 0 {
					want, e = 0, api.ErrNone
				}
				if at, got := pass.Blue(j.PassJob, f.order, limit); at != want || got != e {
					t.Errorf("%s: Blue of %v with %d is %d, %d, not %d, %d", j.text(), f.order, limit, at, got, want, e)
				}
			}
		}
	})
}

// P4.5, P4.6 (Barrier), P4.7
func TestBestAsModel(t *testing.T) {
	most := 0
	smallJobs(t, func(c chance, j job, all []fact) {
		least := leastHot(all)
		order, heat, e := pass.Best(j.PassJob)
		if heat != least || e != api.OK || !slices.ContainsFunc(all, func(f fact) bool { return slices.Equal(f.order, order) && f.heat == least }) {
			t.Errorf("%s: Best is %v, %d, %d, not %d", j.text(), order, heat, e, least)
		}
		barrier, e := pass.Barrier(j.PassJob)
		if e != api.OK || j.bound(barrier) != least {
			t.Errorf("%s: Barrier is %v, %d; its bound is not %d", j.text(), barrier, e, least)
		}
		most = max(most, len(barrier))
		for _, limit := range c.limits(all) {
			want := len(staying(all, limit))
			if n, e := pass.Count(j.PassJob, limit); n != int64(want) || e != api.OK {
				t.Errorf("%s: Count with %d is %d, %d, not %d", j.text(), limit, n, e, want)
			}
		}
	})
	if most < 10 {
		t.Errorf("a barrier has at most %d positions: too few tell something", most)
	}
}

// barrier returns some positions, among them the first one, but not the last one; one can come twice.
func (c chance) barrier(j job) [][]int {
	share := 1 + c.Intn(9)
	list := [][]int{j.firstPosition()}
	for _, p := range j.positions() {
		if !slices.Equal(p, j.lastPosition()) && c.Intn(10) < share {
			list = append(list, p)
		}
	}
	c.Shuffle(len(list), func(i, k int) { list[i], list[k] = list[k], list[i] })
	return list
}

// P4.6 (CheckBarrier)
func TestBarriersAsModel(t *testing.T) {
	smallJobs(t, func(c chance, j job, all []fact) {
		for range 20 {
			barrier := c.barrier(j)
			if bound, e := pass.CheckBarrier(j.PassJob, barrier); bound != j.bound(barrier) || e != api.OK {
				t.Errorf("%s: CheckBarrier of %v is %d, %d, not %d", j.text(), barrier, bound, e, j.bound(barrier))
			}
		}
	})
}

// wantBlue returns the error of functions that return ErrBlue if no order stays within a limit.
func wantBlue(some []fact) api.Errno {
	if len(some) == 0 {
		return api.ErrBlue
	}
	return api.OK
}

// P4.8 (Must)
func TestMustAsModel(t *testing.T) {
	told := map[bool]int{}
	smallJobs(t, func(c chance, j job, all []fact) {
		names := j.names()
		for _, limit := range c.limits(all) {
			some := staying(all, limit)
			one, two := names[c.Intn(len(names))], names[c.Intn(len(names))]
			want := len(some) > 0 && !slices.ContainsFunc(some, func(f fact) bool { return f.at[one] >= f.at[two] })
			if must, e := pass.Must(j.PassJob, limit, one, two); must != want || e != wantBlue(some) {
				t.Errorf("%s: Must with %d of %v, %v is %t, %d, not %t", j.text(), limit, one, two, must, e, want)
			}
			if len(some) > 0 && one.Row != two.Row {
				told[want]++
			}
		}
	})
	if told[true] < 50 || told[false] < 50 {
		t.Errorf("passes of two edges must %d times, and need not %d times: too few tell something", told[true], told[false])
	}
}

// P4.8 (Before)
func TestBeforeAsModel(t *testing.T) {
	wide := 0
	smallJobs(t, func(c chance, j job, all []fact) {
		for _, limit := range c.limits(all) {
			some := staying(all, limit)
			for _, name := range j.names() {
				var want api.Range
				for i, f := range some {
					if i == 0 {
						want = rg(f.before[name], f.before[name])
					}
					want = rg(min(want.Lo, f.before[name]), max(want.Hi, f.before[name]))
				}
				if got, e := pass.Before(j.PassJob, limit, name); got != want || e != wantBlue(some) {
					t.Errorf("%s: Before with %d of %v is %v, %d, not %v", j.text(), limit, name, got, e, want)
				}
				if want.Lo < want.Hi && len(some) < len(all) {
					wide++
				}
			}
		}
	})
	if wide < 500 {
		t.Errorf("%d ranges have two ends: too few tell something", wide)
	}
}
