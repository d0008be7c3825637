package warp_test

import (
	"fmt"
	"math/rand"
	"slices"
	"testing"

	"bolster/api"
	"bolster/warp"
)

// The model looks at all blows, one after another, as the chapter defines what they do.

// modelBlows yields all blows of a blade, in one list that changes.
func modelBlows(b api.WarpBlade, yield func(blows []int64)) {
	blows := make([]int64, len(b.Stations))
	var choose func(i int)
	choose = func(i int) {
		if i == len(blows) {
			yield(blows)
			return
		}
		for blows[i] = -b.Most; blows[i] <= b.Most; blows[i]++ {
			choose(i + 1)
		}
	}
	choose(0)
}

// bend returns the bend up to a station.
func bend(blows []int64, station int) int64 {
	sum := int64(0)
	for _, x := range blows[:station+1] {
		sum += x
	}
	return sum
}

func amount(x int64) int64 {
	if x < 0 {
		return -x
	}
	return x
}

// modelCost returns what blows cost, and whether they make the blade straight.
func modelCost(b api.WarpBlade, blows []int64) (int64, bool) {
	cost, straight := int64(0), true
	for i, s := range b.Stations {
		turned := s.Angle + bend(blows, i)
		straight = straight && s.Tol.Lo <= turned && turned <= s.Tol.Hi
		cost += amount(blows[i]) * s.Hard
	}
	return cost, straight
}

// modelBound returns the bound of pulls.
func modelBound(b api.WarpBlade, pulls []int64) int64 {
	bound := int64(0)
	for i, s := range b.Stations {
		if pulls[i] > 0 {
			bound += pulls[i] * (s.Tol.Lo - s.Angle)
		}
		if pulls[i] < 0 {
			bound += pulls[i] * (s.Tol.Hi - s.Angle)
		}
		strain := int64(0)
		for _, p := range pulls[i:] {
			strain += p
		}
		if amount(strain) > s.Hard {
			bound -= b.Most * (amount(strain) - s.Hard)
		}
	}
	return bound
}

// facts are all that there is to know of a blade: whether it can be straight, what best blows cost, which blows these have, which bends there are, and what blows cost at least with one of them at a station.
type facts struct {
	straight bool
	best     int64
	bends    []map[int64]bool
	least    []map[int64]int64
}

func modelFacts(b api.WarpBlade) facts {
	var f facts
	for range b.Stations {
		f.bends = append(f.bends, map[int64]bool{})
		f.least = append(f.least, map[int64]int64{})
	}
	modelBlows(b, func(blows []int64) {
		cost, straight := modelCost(b, blows)
		if !straight {
			return
		}
		if !f.straight || cost < f.best {
			f.straight, f.best = true, cost
		}
		for i := range b.Stations {
			f.bends[i][bend(blows, i)] = true
			if old, ok := f.least[i][blows[i]]; !ok || cost < old {
				f.least[i][blows[i]] = cost
			}
		}
	})
	return f
}

// ends returns the ends of the numbers of a map that are wanted, and whether all numbers between are wanted too.
func ends[T any](numbers map[int64]T, wanted func(x T) bool) (api.Range, bool) {
	var list []int64
	for n, x := range numbers {
		if wanted(x) {
			list = append(list, n)
		}
	}
	r := rg(slices.Min(list), slices.Max(list))
	return r, int64(len(list)) == r.Hi-r.Lo+1
}

// chance makes blades that are always the same ones.
type chance struct{ *rand.Rand }

func (c chance) from(lo, hi int64) int64 { return lo + c.Int63n(hi-lo+1) }

// blade returns a valid blade with so many stations, with angles and tolerances up to top.
func (c chance) blade(n int, top, most int64) api.WarpBlade {
	b := api.WarpBlade{Most: c.from(0, most)}
	for range n {
		s := api.WarpStation{Angle: c.from(-top, top), Hard: c.from(1, 1+c.from(0, 8))}
		s.Tol.Lo = c.from(-top, top)
		s.Tol.Hi = c.from(s.Tol.Lo, min(top, s.Tol.Lo+c.from(0, 2*top)))
		b.Stations = append(b.Stations, s)
	}
	return b
}

// mild returns a valid blade of any size that can often be made straight.
func (c chance) mild() api.WarpBlade {
	top := []int64{2, 5, 20, 100}[c.Intn(4)]
	b := c.blade(1+c.Intn(20), top, 200)
	if c.Intn(3) > 0 {
		b.Most = min(200, c.from(top/2, 3*top))
	}
	return b
}

// text tells what a blade is, for a test that fails.
func text(b api.WarpBlade) string { return fmt.Sprint(b) }

// smallBlades runs a test for many blades that the model can follow.
func smallBlades(t *testing.T, test func(c chance, b api.WarpBlade, f facts)) {
	c := chance{rand.New(rand.NewSource(2))}
	straight := 0
	for range 500 {
		b := c.blade(1+c.Intn(4), 3, 4)
		f := modelFacts(b)
		if f.straight {
			straight++
		}
		test(c, b, f)
		if t.Failed() {
			return
		}
	}
	if straight < 100 || straight > 400 {
		t.Errorf("%d of 500 blades can be straight: too few tell something", straight)
	}
}

// wantWarp returns the error of functions that return ErrWarp if no blows make the blade straight.
func wantWarp(straight bool) api.Errno {
	if straight {
		return api.OK
	}
	return api.ErrWarp
}

// P2.4, P2.5, P2.6
func TestBestAsModel(t *testing.T) {
	smallBlades(t, func(c chance, b api.WarpBlade, f facts) {
		blows, cost, e := warp.Best(b)
		if cost != f.best || e != wantWarp(f.straight) {
			t.Errorf("%s: Best is %v, %d, %d, not %d", text(b), blows, cost, e, f.best)
		}
		pulls, e := warp.Pulls(b)
		if e != wantWarp(f.straight) {
			t.Errorf("%s: Pulls is %v, %d", text(b), pulls, e)
		}
		if f.straight {
			if got, straight := modelCost(b, blows); got != f.best || !straight {
				t.Errorf("%s: the best blows %v cost %d, not %d", text(b), blows, got, f.best)
			}
			if got := modelBound(b, pulls); got != f.best {
				t.Errorf("%s: the pulls %v have the bound %d, not %d", text(b), pulls, got, f.best)
			}
		}
		if _, _, e := warp.Clash(b); (e == api.ErrNone) != f.straight {
			t.Errorf("%s: Clash is %d", text(b), e)
		}
	})
}

// P2.5, P2.7, P2.8, P2.11 (between)
func TestStationsAsModel(t *testing.T) {
	smallBlades(t, func(c chance, b api.WarpBlade, f facts) {
		for i := range b.Stations {
			bends, e1 := warp.Bends(b, i)
			span, e2 := warp.Span(b, i)
			if e1 != wantWarp(f.straight) || e2 != e1 {
				t.Errorf("%s: Bends and Span at %d are %d and %d", text(b), i, e1, e2)
			}
			if f.straight {
				want, whole := ends(f.bends[i], func(x bool) bool { return x })
				if bends != want || !whole {
					t.Errorf("%s: Bends at %d is %v, not %v", text(b), i, bends, f.bends[i])
				}
				want, whole = ends(f.least[i], func(cost int64) bool { return cost == f.best })
				if span != want || !whole {
					t.Errorf("%s: Span at %d is %v, not %v", text(b), i, span, want)
				}
			}
			for blow := -b.Most; blow <= b.Most; blow++ {
				want, ok := f.least[i][blow]
				if got, e := warp.Least(b, i, blow); got != want || e != wantWarp(ok) {
					t.Errorf("%s: Least at %d of %d is %d, %d, not %d", text(b), i, blow, got, e, want)
				}
			}
		}
	})
}

// P2.2, P2.3
func TestCheckBlowsAsModel(t *testing.T) {
	smallBlades(t, func(c chance, b api.WarpBlade, f facts) {
		modelBlows(b, func(blows []int64) {
			if c.Intn(20) > 0 {
				return
			}
			turned, e := warp.After(b, blows)
			if len(turned) != len(b.Stations) || e != api.OK {
				t.Errorf("%s: After of %v is %v, %d", text(b), blows, turned, e)
				return
			}
			for i, s := range b.Stations {
				if turned[i] != s.Angle+bend(blows, i) {
					t.Errorf("%s: After of %v is %v", text(b), blows, turned)
				}
			}
			want, straight := modelCost(b, blows)
			if !straight {
				want = 0
			}
			if got, e := warp.CheckBlows(b, blows); got != want || e != wantWarp(straight) {
				t.Errorf("%s: CheckBlows of %v is %d, %d, not %d", text(b), blows, got, e, want)
			}
		})
	})
}

// P2.6
func TestCheckPullsAsModel(t *testing.T) {
	c := chance{rand.New(rand.NewSource(3))}
	for range 2000 {
		b := c.mild()
		pulls := c.pulls(len(b.Stations))
		if got, e := warp.CheckPulls(b, pulls); got != modelBound(b, pulls) || e != api.OK {
			t.Fatalf("%s: CheckPulls of %v is %d, %d, not %d", text(b), pulls, got, e, modelBound(b, pulls))
		}
	}
}

// pulls returns some pulls, often small ones.
func (c chance) pulls(n int) []int64 {
	top := []int64{1, 5, 100}[c.Intn(3)]
	var list []int64
	for range n {
		list = append(list, c.from(-top, top))
	}
	return list
}

// P2.5
func TestClashAsModel(t *testing.T) {
	c := chance{rand.New(rand.NewSource(4))}
	for range 2000 {
		b := c.mild()
		wantOne, wantTwo, want := modelClash(b)
		if one, two, e := warp.Clash(b); one != wantOne || two != wantTwo || e != want {
			t.Fatalf("%s: Clash is %d, %d, %d, not %d, %d, %d", text(b), one, two, e, wantOne, wantTwo, want)
		}
	}
}

// modelClash returns the first of all pairs that contradict each other.
func modelClash(b api.WarpBlade) (int, int, api.Errno) {
	los, his := []int64{0}, []int64{0}
	for _, s := range b.Stations {
		los = append(los, s.Tol.Lo-s.Angle)
		his = append(his, s.Tol.Hi-s.Angle)
	}
	for one := range los {
		for two := range los {
			between := b.Most * int64(two-one)
			if one < two && (los[one]-his[two] > between || los[two]-his[one] > between) {
				return one - 1, two - 1, api.OK
			}
		}
	}
	return 0, 0, api.ErrNone
}
