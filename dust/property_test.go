package dust_test

import (
	"math"
	"math/rand"
	"slices"
	"testing"

	"bolster/api"
	"bolster/dust"
)

// window returns the window of so many hours, or -1 if there is none.
func window(s api.DustShop, hours int) int64 {
	most, _, err := dust.Window(s, hours)
	if err != api.OK {
		return -1
	}
	return most
}

// walk returns a plan of up to so many works.
func (c chance) walk(s api.DustShop, works int) []int {
	plan := of(s.First[c.Intn(len(s.First))])
	for len(plan) < works {
		var after []int
		for other := range s.Dust {
			if mayFollow(s, other, plan[len(plan)-1]) {
				after = append(after, other)
			}
		}
		if len(after) == 0 {
			break
		}
		plan = append(plan, after[c.Intn(len(after))])
	}
	return plan
}

// P9.8
func TestBreathed(t *testing.T) {
	c := chance{rand.New(rand.NewSource(11))}
	just, long := 0, 0
	for range 1500 {
		s, hours := c.shop(10), c.from(1, 24)
		plan := c.walk(s, 100)
		if sum, err := dust.CheckPlan(s, plan); sum != sumOf(s, plan) || err != api.OK {
			t.Fatalf("%v: CheckPlan of %v is %d, %d", s, plan, sum, err)
		}
		most, run, err := dust.Window(s, hours)
		for from := 0; from+hours <= len(plan); from++ {
			sum, e := dust.CheckRun(s, plan[from:from+hours])
			if err != api.OK || e != api.OK || sum > most || dust.Safe(s, hours, sum-1) != api.ErrDust {
				t.Fatalf("%v: of %v it is %d, %d, but the window of %d hours is %d, %d", s, plan[from:from+hours], sum, e, hours, most, err)
			}
			count(&just, sum == most && hours > 2)
			count(&long, hours > 12)
		}
		if sum, e := dust.CheckRun(s, run); err == api.OK && (sum != most || e != api.OK || len(run) != hours) {
			t.Fatalf("%v: the window of %d hours is %d, but of %v it is %d, %d", s, hours, most, run, sum, e)
		}
	}
	if just < 500 || long < 500 {
		t.Errorf("%d, %d runs: too few tell something", just, long)
	}
}

// P9.9: windows
func TestProvedTops(t *testing.T) {
	c := chance{rand.New(rand.NewSource(12))}
	right, wide := 0, 0
	for range 5000 {
		s := c.shop(10)
		tops := c.someTops(s, c.from(1, 8))
		bound, err := dust.CheckTops(s, tops)
		if err != api.OK {
			continue
		}
		most := window(s, len(tops))
		if most > bound {
			t.Fatalf("%v: the window of %d hours is %d, but %v are right", s, len(tops), most, tops)
		}
		count(&right, len(tops) > 1 && most >= 0)
		count(&wide, len(tops) > 1 && most >= 0 && most < bound)
	}
	if right < 500 || wide < 100 {
		t.Errorf("%d tops are right, %d are wide: too few tell something", right, wide)
	}
}

// someProof returns a bound that levels prove, and these: the greatest mean, or one that is greater; and whether there is a round.
func (c chance) someProof(s api.DustShop) (api.Ratio, []int64, bool) {
	mean, _, err := dust.Mean(s)
	if err != api.OK {
		return ratio(1000, 1), make([]int64, len(s.Dust)), false
	}
	levels, _ := dust.Levels(s)
	for range c.Intn(3) {
		levels[c.Intn(len(levels))] += int64(c.from(-30, 30))
	}
	for mean.Num < 1000*mean.Den && dust.CheckLevels(s, mean, levels) != api.OK {
		mean.Num++
	}
	return mean, levels, true
}

// P9.9: rounds; P9.10: runs
func TestProvedLevels(t *testing.T) {
	c := chance{rand.New(rand.NewSource(13))}
	just, wide := 0, 0
	for range 2000 {
		s := c.shop(c.from(1, 7))
		bound, levels, _ := c.someProof(s)
		if dust.CheckLevels(s, bound, levels) != api.OK {
			continue
		}
		rounds(s, func(round []int) {
			if bound.Den*sumOf(s, round) > bound.Num*int64(len(round)) {
				t.Errorf("%v: the round %v has a greater mean than %v, which %v prove", s, round, bound, levels)
			}
			count(&just, bound.Den*sumOf(s, round) == bound.Num*int64(len(round)))
			count(&wide, bound.Den*sumOf(s, round) < bound.Num*int64(len(round)))
		})
		run := c.walk(s, 100)
		run = run[c.Intn(len(run)):]
		sum, err := dust.CheckRun(s, run)
		first, last := run[0], run[len(run)-1]
		if err != api.OK || bound.Den*sum > bound.Num*int64(len(run))+levels[first]-levels[last]+bound.Den*s.Dust[last]-bound.Num {
			t.Errorf("%v: the dust of %v is %d, %d, but %v prove %v", s, run, sum, err, levels, bound)
		}
		if t.Failed() {
			return
		}
	}
	if just < 500 || wide < 500 {
		t.Errorf("%d, %d rounds: too few tell something", just, wide)
	}
}

// P9.10: windows
func TestLong(t *testing.T) {
	c := chance{rand.New(rand.NewSource(14))}
	just, above := 0, 0
	for range 3000 {
		s, hours := c.shop(10), c.from(1, 24)
		mean, round, err := dust.Mean(s)
		if err != api.OK {
			continue
		}
		most := window(s, hours)
		if most*mean.Den < int64(hours)*mean.Num {
			t.Fatalf("%v: the window of %d hours is %d, but the mean of %v is %v", s, hours, most, round, mean)
		}
		count(&just, most*mean.Den == int64(hours)*mean.Num)
		count(&above, most*mean.Den > int64(hours)*mean.Num)
	}
	if just < 300 || above < 300 {
		t.Errorf("%d, %d windows: too few tell something", just, above)
	}
}

// fewer returns a shop with fewer Follows, a shorter First, or less Dust of a work.
func (c chance) fewer(s api.DustShop) api.DustShop {
	out := api.DustShop{Dust: slices.Clone(s.Dust), Follows: slices.Clone(s.Follows), First: slices.Clone(s.First)}
	switch c.Intn(3) {
	case 0:
		for range c.from(1, 3) {
			if n := len(out.Follows); n > 0 {
				at := c.Intn(n)
				out.Follows = slices.Delete(out.Follows, at, at+1)
			}
		}
	case 1:
		if n := len(out.First); n > 1 {
			at := c.Intn(n)
			out.First = slices.Delete(out.First, at, at+1)
		}
	case 2:
		work := c.Intn(len(out.Dust))
		out.Dust[work] = int64(c.Intn(int(out.Dust[work]) + 1))
	}
	return out
}

// P9.11
func TestFewer(t *testing.T) {
	c := chance{rand.New(rand.NewSource(15))}
	less, lower := 0, 0
	for range 4000 {
		s, hours := c.shop(10), c.from(1, 24)
		other := c.fewer(s)
		one, two := window(s, hours), window(other, hours)
		if two > one {
			t.Fatalf("the window of %d hours of %v is %d, but of %v it is %d", hours, s, one, other, two)
		}
		count(&less, two < one && two >= 0)
		mean, _, err1 := dust.Mean(s)
		mean2, _, err2 := dust.Mean(other)
		if err2 == api.OK && (err1 != api.OK || mean2.Num*mean.Den > mean.Num*mean2.Den) {
			t.Fatalf("the mean of %v is %v, %d, but of %v it is %v", s, mean, err1, other, mean2)
		}
		count(&lower, err2 == api.OK && mean2 != mean)
	}
	if less < 200 || lower < 200 {
		t.Errorf("%d windows, %d means: too few tell something", less, lower)
	}
}

// goesOn reports whether some work may follow each work that is reached.
func goesOn(s api.DustShop) bool {
	for _, work := range reached(s) {
		if !slices.ContainsFunc(s.Follows, func(pair [2]int) bool { return pair[0] == work }) {
			return false
		}
	}
	return true
}

// P9.12
func TestTogether(t *testing.T) {
	c := chance{rand.New(rand.NewSource(16))}
	on, just, ends := 0, 0, 0
	for range 5000 {
		s, hours := c.shop(10), c.from(1, 23)
		more := c.from(1, 24-hours)
		one, two, both := window(s, hours), window(s, more), window(s, hours+more)
		if both >= 0 && (both > one+two || one < 0 || two < 0) {
			t.Fatalf("%v: the windows of %d, %d, and both are %d, %d, %d", s, hours, more, one, two, both)
		}
		if goesOn(s) && both < max(one, two, 0) {
			t.Fatalf("%v: the windows of %d, %d, and both are %d, %d, %d, but works go on", s, hours, more, one, two, both)
		}
		count(&on, goesOn(s) && both < one+two)
		count(&just, both == one+two && both > 0)
		count(&ends, both >= 0 && both < max(one, two))
	}
	if on < 500 || just < 200 || ends < 5 {
		t.Errorf("%d, %d, %d windows: too few tell something", on, just, ends)
	}
}

// P9.13
func TestLimits(t *testing.T) {
	c := chance{rand.New(rand.NewSource(17))}
	safe, fewer := 0, 0
	for range 4000 {
		s, hours := c.shop(10), c.from(1, 24)
		limit := window(s, hours) + int64(c.from(-50, 5))
		if c.Intn(5) == 0 {
			limit = c.odd()
		}
		higher := limit
		if up := limit + int64(c.Intn(50)); up > limit {
			higher = up
		}
		one, err1 := dust.Begins(s, hours, limit)
		two, err2 := dust.Begins(s, hours, higher)
		err := dust.Safe(s, hours, limit)
		if err1 != api.OK || (len(one) == 0) != (err == api.OK) || (len(one) > 0) != (err == api.ErrDust) {
			t.Fatalf("%v: Begins of %d hours, %d is %v, %d, but Safe is %d", s, hours, limit, one, err1, err)
		}
		for _, work := range two {
			if err2 != api.OK || !slices.Contains(one, work) {
				t.Fatalf("%v: Begins of %d hours, %d is %v, but of %d it is %v, %d", s, hours, limit, one, higher, two, err2)
			}
		}
		count(&safe, err == api.OK)
		count(&fewer, len(two) > 0 && len(two) < len(one))
	}
	if safe < 300 || safe > 3700 || fewer < 100 {
		t.Errorf("%d are safe, %d works fewer: too few tell something", safe, fewer)
	}
}

// odd returns a number of any size.
func (c chance) odd() int64 {
	switch c.Intn(4) {
	case 0:
		return num(math.MinInt64, math.MinInt64+1, math.MaxInt64-1, math.MaxInt64)[c.Intn(4)]
	case 1:
		return int64(c.from(-1, 1))
	case 2:
		return int64(c.from(-1100000, 1100000))
	}
	return int64(c.Uint64())
}

// oddList returns a list of some numbers, of which one is of any size.
func (c chance) oddList(numbers int) []int64 {
	list := make([]int64, numbers)
	for i := range list {
		list[i] = int64(c.from(-1, 1000))
	}
	if numbers > 0 && c.Intn(2) == 0 {
		list[c.Intn(numbers)] = c.odd()
	}
	return list
}

// P1, R2: any arguments
func TestAnyArguments(t *testing.T) {
	c := chance{rand.New(rand.NewSource(18))}
	for range 8000 {
		s := c.shop(12)
		switch c.Intn(8) {
		case 0:
			s.Dust[c.Intn(len(s.Dust))] = c.odd()
		case 1:
			s.Follows = append(s.Follows, [2]int{int(c.odd()), int(c.odd())})
		case 2:
			s.First = append(s.First, int(c.odd()))
		case 3:
			s.Dust = s.Dust[:c.Intn(len(s.Dust))]
		}
		list := make([]int, c.Intn(5))
		for i := range list {
			list[i] = c.Intn(len(s.Dust) + 1)
		}
		if len(list) > 0 && c.Intn(5) == 0 {
			list[0] = int(c.odd())
		}
		tops := make([][]int64, c.Intn(27))
		for i := range tops {
			tops[i] = c.oddList(max(0, len(s.Dust)-c.Intn(2)*c.Intn(2)))
		}
		hours := c.from(-1, 26)
		if c.Intn(5) == 0 {
			hours = int(c.odd())
		}
		limit, bound, levels := c.odd(), ratio(c.odd(), c.odd()), c.oddList(len(s.Dust))
		for function, err := range errorsOf(s, list, hours, tops, limit, bound, levels) {
			if err < 0 {
				t.Errorf("%s of %v, %v, %d, %v, %d, %v, %v returns something with an error", function, s, list, hours, tops, limit, bound, levels)
			}
		}
	}
}
