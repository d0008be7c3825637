package hone_test

import (
	"math"
	"math/rand"
	"slices"
	"testing"

	"bolster/api"
	"bolster/hone"
)

// reaching runs a test for many works of all sizes, each one with an edge that can reach the goal, and tells it the fewest strokes.
func reaching(t *testing.T, n int, test func(c chance, w work, e api.HoneEdge, best []int)) {
	t.Helper()
	c := chance{rand.New(rand.NewSource(5))}
	tested := 0
	for range n {
		w, e := c.work(api.MaxHoneStones), c.edge(100)
		if best, err := hone.Best(w.l, e, w.goal); err == api.OK {
			test(c, w, e, best)
			count(&tested, len(best) > 1)
		}
		if t.Failed() {
			return
		}
	}
	if tested < n/5 {
		t.Errorf("%d of %d edges need several strokes: too few tell something", tested, n)
	}
}

// P7.9
func TestProved(t *testing.T) {
	most := 0
	reaching(t, 3000, func(c chance, w work, e api.HoneEdge, best []int) {
		most = max(most, len(best))
		if end, err := hone.After(w.l, e, best); !asKeen(end, w.goal) || err != api.OK {
			t.Errorf("%v, %v: after %v it is %v, %d", w, e, best, end, err)
		}
		rows, err := hone.Rows(w.l, e, w.goal)
		if len(rows) != len(best) || err != api.OK {
			t.Errorf("%v, %v: Best and Rows are %v, %v, %d", w, e, best, rows, err)
			return
		}
		if err := hone.CheckRows(w.l, e, w.goal, rows); err != api.OK {
			t.Errorf("%v, %v: CheckRows of Rows %v is %d", w, e, rows, err)
		}
		last, _ := hone.Last(w.l, w.goal)
		for range 5 {
			more := append(slices.Clone(rows), c.bent(last))
			if len(rows) > 0 && c.Intn(2) == 0 {
				more = append(slices.Clone(rows), c.bent(rows[len(rows)-1]))
			}
			if err := hone.CheckRows(w.l, e, w.goal, more); err != api.ErrSum {
				t.Errorf("%v, %v: Best is %v, but CheckRows of %v is %d", w, e, best, more, err)
			}
		}
	})
	if most < 100 {
		t.Errorf("no edge needs more than %d strokes: too few tell something", most)
	}
}

// P7.9: rows of any kind that prove
func TestNoFewer(t *testing.T) {
	right := 0
	reaching(t, 3000, func(c chance, w work, e api.HoneEdge, best []int) {
		made, _ := hone.Rows(w.l, e, w.goal)
		for range 5 {
			var rows [][]int
			for _, row := range made {
				if c.Intn(8) == 0 {
					row = c.bent(row)
				}
				if c.Intn(20) > 0 {
					rows = append(rows, row)
				}
			}
			if hone.CheckRows(w.l, e, w.goal, rows) != api.OK {
				continue
			}
			count(&right, len(rows) > 1 && !equal(rows, made))
			if len(best) < len(rows) {
				t.Errorf("%v, %v: Best is %v, but %v prove more", w, e, best, rows)
			}
		}
	})
	if right < 100 {
		t.Errorf("%d lists of rows prove: too few tell something", right)
	}
}

// P7.10
func TestEither(t *testing.T) {
	c := chance{rand.New(rand.NewSource(6))}
	can := 0
	for range 3000 {
		w, e := c.work(4), c.edge(100)
		last, err1 := hone.Last(w.l, w.goal)
		_, err2 := hone.Best(w.l, e, w.goal)
		never := hone.CheckNever(w.l, e, w.goal, last)
		if err1 != api.OK || (err2 == api.OK) != (never == api.ErrSum) || (err2 == api.ErrPlan) != (never == api.OK) {
			t.Fatalf("%v, %v: Last is %v, %d; Best and CheckNever are %d and %d", w, e, last, err1, err2, never)
		}
		if err2 == api.OK {
			can++
			if row := c.bent(last); hone.CheckNever(w.l, e, w.goal, row) == api.OK {
				t.Fatalf("%v, %v: it can reach the goal, but %v proves that it cannot", w, e, row)
			}
		}
	}
	if can < 500 || can > 2500 {
		t.Errorf("%d edges can reach the goal: too few tell something", can)
	}
}

// keener returns an edge that is at least as keen as another one.
func (c chance) keener(e api.HoneEdge) api.HoneEdge {
	return edge(c.from(0, e.Depth), c.from(0, e.Burr))
}

// P7.11: strokes of any kind
func TestKeenerAfter(t *testing.T) {
	c := chance{rand.New(rand.NewSource(7))}
	made := 0
	for range 5000 {
		w, e := c.work(api.MaxHoneStones), c.edge(100)
		keen := c.keener(e)
		var strokes []int
		for range c.Intn(8) {
			strokes = append(strokes, c.Intn(len(w.l)))
		}
		end, err := hone.After(w.l, e, strokes)
		if err != api.OK {
			continue
		}
		count(&made, len(strokes) > 1)
		if other, err := hone.After(w.l, keen, strokes); !asKeen(other, end) || err != api.OK {
			t.Fatalf("%v: after %v, %v is %v, but %v is %v, %d", w, strokes, e, end, keen, other, err)
		}
	}
	if made < 500 {
		t.Errorf("%d lists of strokes can be made: too few tell something", made)
	}
}

// P7.11: fewest strokes
func TestKeenerBest(t *testing.T) {
	var fewer [3]int
	reaching(t, 4000, func(c chance, w work, e api.HoneEdge, best []int) {
		keen := c.keener(e)
		if end, err := hone.After(w.l, keen, best); !asKeen(end, w.goal) || err != api.OK {
			t.Errorf("%v: %v reaches the goal by %v, but %v becomes %v, %d", w, e, best, keen, end, err)
		}
		easy := edge(c.from(w.goal.Depth, 100), c.from(w.goal.Burr, 6))
		if c.Intn(2) == 0 {
			easy = edge(min(100, w.goal.Depth+c.Intn(3)), min(6, w.goal.Burr+c.Intn(2)))
		}
		more := slices.Insert(slices.Clone(w.l), c.Intn(len(w.l)+1), c.stone())
		for i, other := range []struct {
			l       []api.HoneStone
			e, goal api.HoneEdge
		}{{w.l, keen, w.goal}, {w.l, e, easy}, {more, e, w.goal}} {
			if len(other.l) > api.MaxHoneStones {
				continue
			}
			now, err := hone.Best(other.l, other.e, other.goal)
			if len(now) > len(best) || err != api.OK {
				t.Errorf("%v, %v: Best is %v, but of %v: %v, %d", w, e, best, other, now, err)
			}
			count(&fewer[i], len(now) < len(best))
		}
	})
	if min(fewer[0], fewer[1], fewer[2]) < 100 {
		t.Errorf("%v edges need fewer strokes: too few tell something", fewer)
	}
}

// P7.12
func TestOneAfterAnother(t *testing.T) {
	reaching(t, 3000, func(c chance, w work, e api.HoneEdge, best []int) {
		if len(best) > 0 {
			next, _ := hone.After(w.l, e, best[:1])
			if rest, err := hone.Best(w.l, next, w.goal); !slices.Equal(rest, best[1:]) || err != api.OK {
				t.Errorf("%v, %v: Best is %v, but behind the first one %v, %d", w, e, best, rest, err)
			}
		}
		strokes := c.Intn(len(best) + 2)
		one, _ := hone.Far(w.l, w.goal, strokes)
		two, _ := hone.Far(w.l, w.goal, strokes+1)
		last, _ := hone.Last(w.l, w.goal)
		for burr := range one {
			if one[burr] > two[burr] || two[burr] > last[burr] || burr > 0 && one[burr] > one[burr-1] {
				t.Errorf("%v: the rows of %d strokes, of one more, and the last one are %v, %v, %v", w, strokes, one, two, last)
			}
		}
		for _, strokes := range of(706, 707, 800) {
			if row, err := hone.Far(w.l, w.goal, strokes); !slices.Equal(row, last) || err != api.OK {
				t.Errorf("%v: Far of %d is %v, %d, not %v", w, strokes, row, err, last)
			}
		}
		for strokes := range len(best) {
			row, _ := hone.Far(w.l, w.goal, strokes)
			if inRow(row, e) {
				t.Errorf("%v: Best of %v is %v, but it is in the row of %d strokes", w, e, best, strokes)
			}
		}
		if row, _ := hone.Far(w.l, w.goal, len(best)); !inRow(row, e) {
			t.Errorf("%v: Best of %v is %v, but it is not in their row %v", w, e, best, row)
		}
	})
}

// P7.13
func TestOrder(t *testing.T) {
	reaching(t, 2000, func(c chance, w work, e api.HoneEdge, best []int) {
		other := slices.Clone(w.l)
		c.Shuffle(len(other), func(i, j int) { other[i], other[j] = other[j], other[i] })
		now, err := hone.Best(other, e, w.goal)
		if len(now) != len(best) || err != api.OK {
			t.Errorf("%v, %v: Best is %v; in another order %v: %v, %d", w, e, best, other, now, err)
		}
		one, _ := hone.Rows(w.l, e, w.goal)
		two, _ := hone.Rows(other, e, w.goal)
		if !equal(one, two) {
			t.Errorf("%v, %v: Rows is %v; in another order %v: %v", w, e, one, other, two)
		}
		last, _ := hone.Last(w.l, w.goal)
		if row, _ := hone.Last(other, w.goal); !slices.Equal(row, last) {
			t.Errorf("%v: Last is %v; in another order %v: %v", w, last, other, row)
		}
	})
}

// odd returns a number of any size.
func (c chance) odd() int {
	switch c.Intn(4) {
	case 0:
		return []int{math.MinInt, math.MinInt + 1, math.MaxInt - 1, math.MaxInt}[c.Intn(4)]
	case 1:
		return c.from(-1, 1)
	case 2:
		return c.from(-900, 900)
	}
	return int(c.Uint64())
}

// P1, R2: any arguments
func TestAnyArguments(t *testing.T) {
	c := chance{rand.New(rand.NewSource(8))}
	for range 5000 {
		w, e := c.work(8), c.edge(100)
		var strokes []int
		var rows [][]int
		for range c.Intn(4) {
			strokes = append(strokes, c.from(-1, len(w.l)))
			rows = append(rows, c.bent(make([]int, 7))[:c.from(6, 7)])
		}
		switch c.Intn(8) {
		case 0:
			w.l[c.Intn(len(w.l))] = boxOf(c.odd(), c.odd(), c.odd())[0]
		case 1:
			e = edge(c.odd(), c.odd())
		case 2:
			w.goal = edge(c.odd(), c.odd())
		case 3:
			strokes = append(strokes, c.odd())
		case 4:
			rows = append(rows, []int{c.odd(), c.odd(), c.odd(), c.odd(), c.odd(), c.odd(), c.odd()})
		}
		n := c.odd()
		for function, err := range errorsOf(w.l, e, w.goal, strokes, rows, n) {
			if err < 0 {
				t.Errorf("%s of %v, %v, %v, %v, %d returns something with an error", function, w, e, strokes, rows, n)
			}
		}
	}
}
