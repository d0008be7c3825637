package warp_test

import (
	"math/rand"
	"slices"
	"testing"

	"bolster/api"
	"bolster/warp"
)

// blades runs a test for many blades of all sizes.
func blades(t *testing.T, n int, test func(c chance, b api.WarpBlade)) {
	c := chance{rand.New(rand.NewSource(5))}
	for range n {
		test(c, c.mild())
		if t.Failed() {
			return
		}
	}
}

// straightBlades runs a test for many blades of all sizes that can be made straight, and tells it what best blows cost.
func straightBlades(t *testing.T, n int, test func(c chance, b api.WarpBlade, best int64)) {
	tested := 0
	blades(t, n, func(c chance, b api.WarpBlade) {
		if _, best, e := warp.Best(b); e == api.OK {
			tested++
			test(c, b, best)
		}
	})
	if tested < n/4 {
		t.Errorf("%d of %d blades can be straight: too few tell something", tested, n)
	}
}

// altered returns a blade, in new memory, with a change at one station.
func altered(b api.WarpBlade, station int, change func(s *api.WarpStation)) api.WarpBlade {
	b.Stations = slices.Clone(b.Stations)
	change(&b.Stations[station])
	return b
}

// alteredAll returns a blade, in new memory, with a change at all stations.
func alteredAll(b api.WarpBlade, change func(s *api.WarpStation)) api.WarpBlade {
	b.Stations = slices.Clone(b.Stations)
	for i := range b.Stations {
		change(&b.Stations[i])
	}
	return b
}

// P2.9 (proved): as the bound of no pulls is above what blows cost, equal ones prove each other, at any size.
func TestProved(t *testing.T) {
	straightBlades(t, 1500, func(c chance, b api.WarpBlade, best int64) {
		blows, _, _ := warp.Best(b)
		if cost, straight := modelCost(b, blows); cost != best || !straight {
			t.Errorf("%s: the best blows %v cost %d, not %d", text(b), blows, cost, best)
		}
		pulls, e := warp.Pulls(b)
		if bound, f := warp.CheckPulls(b, pulls); bound != best || e != api.OK || f != api.OK {
			t.Errorf("%s: the pulls %v have the bound %d, %d, %d, not %d", text(b), pulls, bound, e, f, best)
		}
		for range 10 {
			some := c.pulls(len(b.Stations))
			if bound, e := warp.CheckPulls(b, some); bound > best || e != api.OK {
				t.Errorf("%s: the pulls %v have the bound %d, %d, above %d", text(b), some, bound, e, best)
			}
		}
	})
}

// P2.10 (either)
func TestEither(t *testing.T) {
	blades(t, 1500, func(c chance, b api.WarpBlade) {
		_, _, e := warp.Best(b)
		one, two, f := warp.Clash(b)
		if (e == api.OK) != (f == api.ErrNone) || (e == api.ErrWarp) != (f == api.OK) {
			t.Errorf("%s: Best is %d, and Clash %d, %d, %d", text(b), e, one, two, f)
		}
	})
}

// P2.11 (between)
func TestBetween(t *testing.T) {
	straightBlades(t, 40, func(c chance, b api.WarpBlade, best int64) {
		i := c.Intn(len(b.Stations))
		span, e := warp.Span(b, i)
		if e != api.OK || span.Lo > span.Hi {
			t.Errorf("%s: Span at %d is %v, %d", text(b), i, span, e)
		}
		for blow := max(-b.Most, span.Lo-3); blow <= min(b.Most, span.Hi+3); blow++ {
			least, e := warp.Least(b, i, blow)
			within := span.Lo <= blow && blow <= span.Hi
			if (e == api.OK && least == best) != within || e == api.OK && least < best {
				t.Errorf("%s: Least at %d of %d is %d, %d; the span is %v, and best %d", text(b), i, blow, least, e, span, best)
			}
		}
		checkBends(t, b, i)
	})
}

// checkBends checks that just the bends of Bends can be had at a station: a station that allows but one bend can be straight, or not.
func checkBends(t *testing.T, b api.WarpBlade, station int) {
	t.Helper()
	bends, e := warp.Bends(b, station)
	if e != api.OK || bends.Lo > bends.Hi {
		t.Errorf("%s: Bends at %d is %v, %d", text(b), station, bends, e)
	}
	tol := b.Stations[station].Tol
	for turned := tol.Lo; turned <= tol.Hi; turned++ {
		one := altered(b, station, func(s *api.WarpStation) { s.Tol = rg(turned, turned) })
		_, _, e := warp.Clash(one)
		bend := turned - b.Stations[station].Angle
		if (e == api.ErrNone) != (bends.Lo <= bend && bend <= bends.Hi) {
			t.Errorf("%s: Bends at %d is %v, but Clash with %d is %d", text(b), station, bends, bend, e)
		}
	}
}

// P2.12 (wider)
func TestWider(t *testing.T) {
	straightBlades(t, 300, func(c chance, b api.WarpBlade, best int64) {
		i := c.Intn(len(b.Stations))
		more := b
		more.Most = c.from(b.Most, 200)
		changed := map[string]api.WarpBlade{
			"a greater Most": more,
			"a wider Tol": altered(b, i, func(s *api.WarpStation) {
				s.Tol = rg(c.from(-100, s.Tol.Lo), c.from(s.Tol.Hi, 100))
			}),
			"a lesser Hard": altered(b, i, func(s *api.WarpStation) { s.Hard = c.from(1, s.Hard) }),
		}
		if last := len(b.Stations) - 1; last > 0 {
			changed["no last station"] = api.WarpBlade{Stations: b.Stations[:last], Most: b.Most}
		}
		for name, x := range changed {
			if _, cost, e := warp.Best(x); cost > best || e != api.OK {
				t.Errorf("%s: with %s best blows cost %d, %d, more than %d", text(b), name, cost, e, best)
			}
		}
	})
}

// P2.13 (turned over)
func TestTurnedOver(t *testing.T) {
	straightBlades(t, 150, func(c chance, b api.WarpBlade, best int64) {
		over := alteredAll(b, func(s *api.WarpStation) {
			s.Angle, s.Tol = -s.Angle, rg(-s.Tol.Hi, -s.Tol.Lo)
		})
		easy := alteredAll(b, func(s *api.WarpStation) { s.Hard = (s.Hard + 2) / 3 })
		thrice := alteredAll(easy, func(s *api.WarpStation) { s.Hard *= 3 })
		if _, cost, e := warp.Best(over); cost != best || e != api.OK {
			t.Errorf("%s: turned over, it costs %d, %d, not %d", text(b), cost, e, best)
		}
		_, one, e1 := warp.Best(easy)
		if _, three, e3 := warp.Best(thrice); three != 3*one || e1 != api.OK || e3 != api.OK {
			t.Errorf("%s: three times as hard, it costs %d, not three times %d", text(easy), three, one)
		}
		i := c.Intn(len(b.Stations))
		span, _ := warp.Span(b, i)
		if got, e := warp.Span(over, i); got != rg(-span.Hi, -span.Lo) || e != api.OK {
			t.Errorf("%s: turned over, the span at %d is %v, not that of %v", text(b), i, got, span)
		}
		span, _ = warp.Span(easy, i)
		if got, e := warp.Span(thrice, i); got != span || e != api.OK {
			t.Errorf("%s: three times as hard, the span at %d is %v, not %v", text(easy), i, got, span)
		}
	})
}

// P2.14 (lazy)
func TestLazy(t *testing.T) {
	tested := 0
	straightBlades(t, 400, func(c chance, b api.WarpBlade, _ int64) {
		hard := c.from(1, 9)
		b = alteredAll(b, func(s *api.WarpStation) { s.Hard = hard })
		var blows []int64
		bend := int64(0)
		for _, s := range b.Stations {
			next := min(max(bend, s.Tol.Lo-s.Angle), s.Tol.Hi-s.Angle)
			blows = append(blows, next-bend)
			bend = next
		}
		cost, e := warp.CheckBlows(b, blows)
		if e == api.ErrRange {
			return
		}
		tested++
		if _, best, f := warp.Best(b); cost != best || e != api.OK || f != api.OK {
			t.Errorf("%s: the lazy blows %v cost %d, %d, and best ones %d, %d", text(b), blows, cost, e, best, f)
		}
	})
	if tested < 50 {
		t.Errorf("%d blades can be made straight lazily: too few tell something", tested)
	}
}
