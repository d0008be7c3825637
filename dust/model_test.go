package dust_test

import (
	"math/rand"
	"slices"
	"testing"

	"bolster/api"
	"bolster/dust"
)

// The model looks at each list of works, each round, and each pair, as the chapter defines them.

// mayFollow reports whether a work may follow another one.
func mayFollow(s api.DustShop, work, other int) bool {
	for _, pair := range s.Follows {
		if pair[0] == other && pair[1] == work {
			return true
		}
	}
	return false
}

// reached looks which works lead to which, in any way.
func reached(s api.DustShop) []int {
	var all []int
	var look func(work int)
	look = func(work int) {
		if slices.Contains(all, work) {
			return
		}
		all = append(all, work)
		for other := range s.Dust {
			if mayFollow(s, other, work) {
				look(other)
			}
		}
	}
	for _, work := range s.First {
		look(work)
	}
	slices.Sort(all)
	return all
}

// isList reports whether a list begins with one of some works, and each other one may follow the one before.
func isList(s api.DustShop, list, begins []int) bool {
	for i := 1; i < len(list); i++ {
		if !mayFollow(s, list[i], list[i-1]) {
			return false
		}
	}
	return slices.Contains(begins, list[0])
}

// sumOf returns the dust of works.
func sumOf(s api.DustShop, works []int) int64 {
	sum := int64(0)
	for _, work := range works {
		sum += s.Dust[work]
	}
	return sum
}

// isRound reports whether works are a round.
func isRound(s api.DustShop, round []int) bool {
	if len(round) == 0 || len(round) > len(s.Dust) || !isList(s, round, reached(s)) {
		return false
	}
	for i, work := range round {
		if slices.Contains(round[:i], work) {
			return false
		}
	}
	return mayFollow(s, round[0], round[len(round)-1])
}

// lists yields all lists of so many works that begin with one of some works; the list changes.
func lists(s api.DustShop, hours int, begins []int, yield func(list []int)) {
	list := make([]int, 0, hours)
	var grow func(works []int)
	grow = func(works []int) {
		for _, work := range works {
			list = append(list, work)
			if len(list) == hours {
				yield(list)
			} else {
				var after []int
				for other := range s.Dust {
					if mayFollow(s, other, work) {
						after = append(after, other)
					}
				}
				grow(after)
			}
			list = list[:len(list)-1]
		}
	}
	grow(begins)
}

// rounds yields all rounds, each one from its least work on; the round changes.
func rounds(s api.DustShop, yield func(round []int)) {
	var round []int
	var grow func(work int)
	grow = func(work int) {
		round = append(round, work)
		if mayFollow(s, round[0], work) {
			yield(round)
		}
		for other := round[0] + 1; other < len(s.Dust); other++ {
			if mayFollow(s, other, work) && !slices.Contains(round, other) {
				grow(other)
			}
		}
		round = round[:len(round)-1]
	}
	for _, work := range reached(s) {
		grow(work)
	}
}

// least returns a ratio in least terms.
func least(num, den int64) api.Ratio {
	for by := den; by > 1; by-- {
		if num%by == 0 && den%by == 0 {
			return ratio(num/by, den/by)
		}
	}
	return ratio(num, den)
}

// greatestMean returns the greatest mean of all rounds, and whether there is one.
func greatestMean(s api.DustShop) (api.Ratio, bool) {
	most, found := api.Ratio{}, false
	rounds(s, func(round []int) {
		num, den := sumOf(s, round), int64(len(round))
		if !found || num*most.Den > most.Num*den {
			most, found = least(num, den), true
		}
	})
	return most, found
}

// begun returns, for each work that is reached, the most dust of the runs of so many works that begin with it, as they grow at their end.
func begun(s api.DustShop, hours int) map[int]int64 {
	all := map[int]int64{}
	for _, work := range reached(s) {
		ends := map[int]int64{work: s.Dust[work]}
		for range hours - 1 {
			next := map[int]int64{}
			for end, sum := range ends {
				for other, more := range s.Dust {
					if old, known := next[other]; mayFollow(s, other, end) && (!known || sum+more > old) {
						next[other] = sum + more
					}
				}
			}
			ends = next
		}
		for _, sum := range ends {
			if old, known := all[work]; !known || sum > old {
				all[work] = sum
			}
		}
	}
	return all
}

// above returns the works with which runs of more dust than a limit begin.
func above(begun map[int]int64, limit int64) []int {
	var works []int
	for work, sum := range begun {
		if sum > limit {
			works = append(works, work)
		}
	}
	slices.Sort(works)
	return works
}

// chance makes shops.
type chance struct{ *rand.Rand }

func (c chance) from(lo, hi int) int { return lo + c.Intn(hi-lo+1) }

// dust returns the dust of a work: little, any, or an end.
func (c chance) dust() int64 {
	switch c.Intn(4) {
	case 0:
		return int64(c.from(0, 3))
	case 1:
		return int64(c.from(0, 1) * 1000)
	case 2:
		return int64(c.from(990, 1000))
	}
	return int64(c.from(0, 1000))
}

// follows returns Follows: of all pairs, or of those alone that lead on, or that lead on or round.
func (c chance) follows(works int) [][2]int {
	var all [][2]int
	kind, thin := c.Intn(4), c.from(1, 4)
	for _, pair := range c.Perm(works * works) {
		one, two := pair/works, pair%works
		if kind == 0 && one >= two || kind == 1 && one >= two && one != works-1 || c.Intn(4) >= thin {
			continue
		}
		all = append(all, [2]int{one, two})
	}
	return all[:min(len(all), api.MaxDustFollows)]
}

// shop returns a shop of up to so many works.
func (c chance) shop(works int) api.DustShop {
	n := c.from(1, works)
	s := api.DustShop{Follows: c.follows(n)}
	for range n {
		s.Dust = append(s.Dust, c.dust())
	}
	for work := range n {
		if c.Intn(3) == 0 {
			s.First = append(s.First, work)
		}
	}
	if len(s.First) == 0 {
		s.First = of(c.Intn(n))
	}
	return s
}

// list returns a list of works of which each one follows the one before, mostly.
func (c chance) list(s api.DustShop, works int) []int {
	list := of(c.Intn(len(s.Dust)))
	for len(list) < works {
		work := c.Intn(len(s.Dust))
		for range 30 {
			if mayFollow(s, work, list[len(list)-1]) {
				break
			}
			work = c.Intn(len(s.Dust))
		}
		list = append(list, work)
	}
	return list
}

// count counts what is so.
func count(n *int, so bool) {
	if so {
		*n++
	}
}

// P9.1 (Reached), P9.2
func TestModelLists(t *testing.T) {
	c := chance{rand.New(rand.NewSource(1))}
	plans, runs, others, part := 0, 0, 0, 0
	for range 3000 {
		s := c.shop(10)
		works := reached(s)
		if got, err := dust.Reached(s); !slices.Equal(got, works) || err != api.OK {
			t.Fatalf("%v: Reached is %v, %d, not %v", s, got, err, works)
		}
		count(&part, len(works) > 2 && len(works) < len(s.Dust))
		for range 4 {
			list := c.list(s, c.from(1, []int{1, 3, 8, 100}[c.Intn(4)]))
			isPlan, isRun := isList(s, list, s.First), isList(s, list, works)
			checkSum(t, s, list, isPlan, dust.CheckPlan)
			checkSum(t, s, list, isRun, dust.CheckRun)
			count(&plans, isPlan && len(list) > 1)
			count(&runs, isRun && !isPlan && len(list) > 1)
			count(&others, !isRun)
		}
		if t.Failed() {
			return
		}
	}
	if plans < 500 || runs < 500 || others < 500 || part < 300 {
		t.Errorf("%d plans, %d runs, %d others, %d shops: too few tell something", plans, runs, others, part)
	}
}

// checkSum checks what a function says of a list that is good, or not.
func checkSum(t *testing.T, s api.DustShop, list []int, good bool, check func(s api.DustShop, list []int) (int64, api.Errno)) {
	t.Helper()
	sum, want := int64(0), api.ErrRule
	if good {
		sum, want = sumOf(s, list), api.OK
	}
	if got, err := check(s, list); got != sum || err != want {
		t.Errorf("%v: of %v it is %d, %d, not %d, %d", s, list, got, err, sum, want)
	}
}

// checkHours checks what is told of so many hours, of which the model tells which works begin how much.
func checkHours(t *testing.T, c chance, s api.DustShop, hours int, begun map[int]int64) {
	t.Helper()
	most, want := int64(0), api.ErrNone
	for _, sum := range begun {
		most, want = max(most, sum), api.OK
	}
	got, run, err := dust.Window(s, hours)
	if got != most || err != want {
		t.Errorf("%v, %d: Window is %d, %d, not %d, %d", s, hours, got, err, most, want)
	}
	if err == api.OK && (len(run) != hours || !isList(s, run, reached(s)) || sumOf(s, run) != most) {
		t.Errorf("%v, %d: Window is %d, but the run is %v", s, hours, most, run)
	}
	tops, err := dust.Tops(s, hours)
	if err != want {
		t.Errorf("%v, %d: Tops is %d, not %d", s, hours, err, want)
	}
	if bound, ok := isRight(s, tops); err == api.OK && (len(tops) != hours || !ok || bound != most) {
		t.Errorf("%v, %d: Window is %d, but Tops is %v", s, hours, most, tops)
	}
	limits := num(most-1, most, most+1, 0, -1, -2, c.odd(), int64(c.Intn(1+int(most))))
	for _, sum := range begun {
		limits = append(limits, sum, sum-1)
	}
	for _, limit := range limits {
		works, safe := above(begun, limit), api.OK
		if len(works) > 0 {
			safe = api.ErrDust
		}
		if got, err := dust.Begins(s, hours, limit); !slices.Equal(got, works) || err != api.OK {
			t.Errorf("%v, %d: Begins of %d is %v, %d, not %v", s, hours, limit, got, err, works)
		}
		if err := dust.Safe(s, hours, limit); err != safe {
			t.Errorf("%v, %d: Safe of %d is %d, not %d", s, hours, limit, err, safe)
		}
	}
}

// isRight returns the bound of tops, and whether they are right, of as many lists as are given.
func isRight(s api.DustShop, tops [][]int64) (int64, bool) {
	for hour, list := range tops {
		for work, n := range list {
			if hour == 0 && n < s.Dust[work] {
				return 0, false
			}
			for other := range s.Dust {
				if hour > 0 && mayFollow(s, other, work) && tops[hour-1][other] >= 0 && n < s.Dust[work]+tops[hour-1][other] {
					return 0, false
				}
			}
		}
	}
	bound := int64(-1)
	for _, work := range reached(s) {
		if len(tops) > 0 {
			bound = max(bound, tops[len(tops)-1][work])
		}
	}
	return bound, true
}

// P9.3, P9.4, P9.5: each run of small shops
func TestModelSmall(t *testing.T) {
	c := chance{rand.New(rand.NewSource(2))}
	none, some := 0, 0
	for range 1500 {
		s, hours := c.shop(4), c.from(1, 6)
		all := map[int]int64{}
		lists(s, hours, reached(s), func(run []int) {
			if old, known := all[run[0]]; !known || sumOf(s, run) > old {
				all[run[0]] = sumOf(s, run)
			}
		})
		if grown := begun(s, hours); len(grown) != len(all) {
			t.Fatalf("%v, %d: the model tells %v and %v", s, hours, grown, all)
		}
		checkHours(t, c, s, hours, all)
		count(&none, len(all) == 0)
		count(&some, len(all) > 0 && len(all) < len(s.Dust))
		if t.Failed() {
			return
		}
	}
	if none < 100 || some < 200 {
		t.Errorf("%d, %d shops: too few tell something", none, some)
	}
}

// P9.3, P9.4, P9.5: shops of all sizes
func TestModelHours(t *testing.T) {
	c := chance{rand.New(rand.NewSource(3))}
	none, some, long := 0, 0, 0
	for range 800 {
		s, hours := c.shop(10), c.from(1, 24)
		all := begun(s, hours)
		checkHours(t, c, s, hours, all)
		count(&none, len(all) == 0)
		count(&some, len(all) > 0 && len(all) < len(s.Dust))
		count(&long, len(all) > 0 && hours > 12)
		if t.Failed() {
			return
		}
	}
	if none < 50 || some < 100 || long < 100 {
		t.Errorf("%d, %d, %d shops: too few tell something", none, some, long)
	}
}

// bent returns lists that are changed a little.
func (c chance) bent(tops [][]int64) [][]int64 {
	out := make([][]int64, len(tops))
	for i, list := range tops {
		out[i] = slices.Clone(list)
		for range c.Intn(3) {
			at := c.Intn(len(list))
			switch c.Intn(4) {
			case 0:
				out[i][at] = -1
			case 1:
				out[i][at]--
			default:
				out[i][at] += int64(c.Intn(50))
			}
			out[i][at] = max(-1, out[i][at])
		}
	}
	return out
}

// someTops returns tops as the chapter allows them, or nearly: made list by list, at least as great as they have to be, and bent then.
func (c chance) someTops(s api.DustShop, hours int) [][]int64 {
	tops := of2(slices.Clone(s.Dust))
	for len(tops) < hours {
		last, list := tops[len(tops)-1], slices.Repeat(num(-1), len(s.Dust))
		for work := range list {
			for other := range s.Dust {
				if mayFollow(s, other, work) && last[other] >= 0 {
					list[work] = max(list[work], s.Dust[work]+last[other])
				}
			}
			if c.Intn(4) == 0 {
				list[work] += int64(c.Intn(3))
			}
		}
		tops = append(tops, list)
	}
	if c.Intn(3) > 0 {
		return c.bent(tops)
	}
	return tops
}

// P9.4 (CheckTops)
func TestModelTops(t *testing.T) {
	c := chance{rand.New(rand.NewSource(4))}
	right, wrong := 0, 0
	for range 6000 {
		s := c.shop(c.from(1, 10))
		tops := c.someTops(s, c.from(1, []int{2, 4, 24}[c.Intn(3)]))
		bound, ok := isRight(s, tops)
		want := api.OK
		if !ok {
			bound, want = 0, api.ErrSum
		}
		if got, err := dust.CheckTops(s, tops); got != bound || err != want {
			t.Fatalf("%v: CheckTops of %v is %d, %d, not %d, %d", s, tops, got, err, bound, want)
		}
		count(&right, ok && len(tops) > 1)
		count(&wrong, !ok && len(tops) > 1)
	}
	if right < 500 || wrong < 500 {
		t.Errorf("%d tops are right, %d are not: too few tell something", right, wrong)
	}
}

// checkMean checks what is told of rounds, of which the model tells the greatest mean.
func checkMean(t *testing.T, s api.DustShop, mean api.Ratio, found bool) {
	t.Helper()
	want := api.ErrNone
	if found {
		want = api.OK
	}
	got, round, err := dust.Mean(s)
	if got != mean || err != want {
		t.Errorf("%v: Mean is %v, %d, not %v, %d", s, got, err, mean, want)
	}
	if found && (!isRound(s, round) || least(sumOf(s, round), int64(len(round))) != mean) {
		t.Errorf("%v: Mean is %v, but the round is %v", s, mean, round)
	}
	levels, err := dust.Levels(s)
	if err != want {
		t.Errorf("%v: Levels is %d, not %d", s, err, want)
	}
	if found && !prove(s, mean, levels) {
		t.Errorf("%v: Levels is %v, which do not prove %v", s, levels, mean)
	}
}

// prove reports whether levels are as described and prove a bound.
func prove(s api.DustShop, bound api.Ratio, levels []int64) bool {
	if len(levels) != len(s.Dust) {
		return false
	}
	for _, level := range levels {
		if level < -1000000 || level > 1000000 {
			return false
		}
	}
	for _, work := range reached(s) {
		for other := range s.Dust {
			if mayFollow(s, other, work) && bound.Den*s.Dust[work]-bound.Num > levels[work]-levels[other] {
				return false
			}
		}
	}
	return true
}

// P9.6, P9.7 (Levels): each round of shops of up to 7 works, and of some of more
func TestModelMean(t *testing.T) {
	c := chance{rand.New(rand.NewSource(5))}
	none, long, broken := 0, 0, 0
	for i := range 4000 {
		works := 7
		if i%40 == 0 {
			works = 10
		}
		s := c.shop(works)
		mean, found := greatestMean(s)
		checkMean(t, s, mean, found)
		_, round, _ := dust.Mean(s)
		count(&none, !found)
		count(&long, len(round) > 3)
		count(&broken, mean.Den > 1)
		if t.Failed() {
			return
		}
	}
	if none < 300 || long < 40 || broken < 200 {
		t.Errorf("%d, %d, %d shops: too few tell something", none, long, broken)
	}
}

// woven returns a shop of up to 10 works in which rounds are long: few pairs, and dusts that differ by little.
func (c chance) woven() api.DustShop {
	s := api.DustShop{First: of(c.Intn(2))}
	order := c.Perm(c.from(2, 10))
	wide := c.from(1, 8)
	for i, work := range order {
		s.Dust = append(s.Dust, int64(500+c.Intn(wide)))
		s.Follows = append(s.Follows, [2]int{work, order[(i+1)%len(order)]})
	}
	for range c.Intn(8) {
		if pair := [2]int{c.Intn(len(order)), c.Intn(len(order))}; !slices.Contains(s.Follows, pair) {
			s.Follows = append(s.Follows, pair)
		}
	}
	return s
}

// P9.6, P9.7 (Levels): each round of shops in which rounds are long
func TestModelWoven(t *testing.T) {
	c := chance{rand.New(rand.NewSource(6))}
	long, most := 0, 0
	for range 4000 {
		s := c.woven()
		mean, found := greatestMean(s)
		checkMean(t, s, mean, found)
		_, round, _ := dust.Mean(s)
		count(&long, len(round) > 5)
		count(&most, len(round) == 10)
		if t.Failed() {
			return
		}
	}
	if long < 500 || most < 50 {
		t.Errorf("%d, %d shops: too few tell something", long, most)
	}
}

// P9.7 (CheckLevels)
func TestModelLevels(t *testing.T) {
	c := chance{rand.New(rand.NewSource(7))}
	right, wrong, just := 0, 0, 0
	for range 6000 {
		s := c.shop(10)
		bound := ratio(0, 1)
		levels := make([]int64, len(s.Dust))
		if mean, _, err := dust.Mean(s); err == api.OK {
			bound = mean
			levels, _ = dust.Levels(s)
		}
		if c.Intn(2) == 0 {
			times := int64(c.from(1, int(10/bound.Den)))
			bound = ratio(times*bound.Num, times*bound.Den)
			for i := range levels {
				levels[i] *= times
			}
		}
		if c.Intn(2) == 0 {
			bound.Num = max(0, min(1000*bound.Den, bound.Num+int64(c.from(-2, 5))))
		}
		for range c.Intn(3) {
			levels[c.Intn(len(levels))] += int64(c.from(-3, 3))
		}
		want := api.ErrSum
		if prove(s, bound, levels) {
			want = api.OK
		}
		if err := dust.CheckLevels(s, bound, levels); err != want {
			t.Fatalf("%v: CheckLevels of %v, %v is %d, not %d", s, bound, levels, err, want)
		}
		bound.Num--
		count(&right, want == api.OK && len(s.Follows) > 3)
		count(&just, want == api.OK && len(s.Follows) > 3 && !prove(s, bound, levels))
		count(&wrong, want != api.OK)
	}
	if right < 1000 || wrong < 1000 || just < 500 {
		t.Errorf("%d levels prove, %d of them just so, %d do not: too few tell something", right, just, wrong)
	}
}
