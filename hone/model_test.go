package hone_test

import (
	"math/rand"
	"slices"
	"testing"

	"bolster/api"
	"bolster/hone"
)

// work is a box with a goal.
type work struct {
	l    []api.HoneStone
	goal api.HoneEdge
}

// The model looks at each edge, each stroke, and each list of strokes, as the chapter defines them.

// edges returns all edges that there are.
func edges() []api.HoneEdge {
	var all []api.HoneEdge
	for depth := range api.MaxHoneDepth + 1 {
		for burr := range api.MaxHoneBurr + 1 {
			all = append(all, edge(depth, burr))
		}
	}
	return all
}

// asKeen reports whether an edge is at least as keen as another one.
func asKeen(e, other api.HoneEdge) bool { return e.Depth <= other.Depth && e.Burr <= other.Burr }

// after returns an edge after a stroke over a stone, and whether it can be made.
func after(s api.HoneStone, e api.HoneEdge) (api.HoneEdge, bool) {
	burr := e.Burr + s.Burr
	if burr > 6 {
		return api.HoneEdge{}, false
	}
	if burr < 0 {
		burr = 0
	}
	depth := e.Depth - s.Cut
	if depth < s.Grit {
		depth = s.Grit
	}
	return edge(depth, burr), true
}

// needs tells how many strokes edges need that can reach a goal.
type needs map[api.HoneEdge]int

// leads returns the edges to which strokes lead from an edge, by the stone.
func (w work) leads(e api.HoneEdge) map[int]api.HoneEdge {
	all := map[int]api.HoneEdge{}
	for stone, s := range w.l {
		if next, ok := after(s, e); ok {
			all[stone] = next
		}
	}
	return all
}

// needs looks round by round which edges reach the goal with a stroke more.
func (w work) needs() needs {
	n := needs{}
	before := map[api.HoneEdge][]api.HoneEdge{} // from which edges a stroke leads to one
	var now []api.HoneEdge
	for _, e := range edges() {
		if asKeen(e, w.goal) {
			n[e] = 0
			now = append(now, e)
		}
		for _, next := range w.leads(e) {
			before[next] = append(before[next], e)
		}
	}
	for round := 1; len(now) > 0; round++ {
		var next []api.HoneEdge
		for _, e := range now {
			for _, from := range before[e] {
				if _, known := n[from]; !known {
					n[from] = round
					next = append(next, from)
				}
			}
		}
		now = next
	}
	return n
}

// row returns, for each burr, the greatest depth of an edge that needs at most so many strokes.
func (n needs) row(strokes int) []int {
	row := slices.Repeat(of(-1), 7)
	for e, need := range n {
		if need <= strokes {
			row[e.Burr] = max(row[e.Burr], e.Depth)
		}
	}
	return row
}

// most returns how many strokes the edge needs that needs most.
func (n needs) most() int {
	most := 0
	for _, need := range n {
		most = max(most, need)
	}
	return most
}

// onward returns the stones, in their order, a stroke over which leads to an edge that needs one less.
func (n needs) onward(w work, e api.HoneEdge) []int {
	var stones []int
	for stone, next := range w.leads(e) {
		if need, ok := n[next]; ok && need == n[e]-1 {
			stones = append(stones, stone)
		}
	}
	slices.Sort(stones)
	return stones
}

// best returns the first fewest strokes.
func (n needs) best(w work, e api.HoneEdge) []int {
	var strokes []int
	for n[e] > 0 {
		stone := n.onward(w, e)[0]
		strokes = append(strokes, stone)
		e, _ = after(w.l[stone], e)
	}
	return strokes
}

// ends adds the stones with which some fewest strokes end.
func (n needs) ends(w work, e api.HoneEdge, seen map[api.HoneEdge]bool, ends map[int]bool) {
	if seen[e] {
		return
	}
	seen[e] = true
	for _, stone := range n.onward(w, e) {
		if n[e] == 1 {
			ends[stone] = true
		}
		next, _ := after(w.l[stone], e)
		n.ends(w, next, seen, ends)
	}
}

// sorted returns the keys of a set, increasing.
func sorted(set map[int]bool) []int {
	var list []int
	for n := range set {
		list = append(list, n)
	}
	slices.Sort(list)
	return list
}

// without returns the work without a stone.
func (w work) without(stone int) work {
	return work{slices.Delete(slices.Clone(w.l), stone, stone+1), w.goal}
}

// chance makes works.
type chance struct{ *rand.Rand }

func (c chance) from(lo, hi int) int { return lo + c.Intn(hi-lo+1) }

// edge returns an edge, up to so deep.
func (c chance) edge(depth int) api.HoneEdge { return edge(c.from(0, depth), c.from(0, 6)) }

// stone returns a stone: fine, coarse, any, or a strop.
func (c chance) stone() api.HoneStone {
	switch c.Intn(6) {
	case 0:
		return boxOf(c.from(0, 3), c.from(0, 3), c.from(0, 2))[0]
	case 1:
		return boxOf(c.from(5, 40), c.from(5, 40), c.from(0, 6))[0]
	case 2:
		return boxOf(c.from(0, 100), c.from(0, 100), c.from(-6, 6))[0]
	case 3:
		return boxOf(0, c.from(0, 1), c.from(-2, 6))[0]
	}
	return boxOf(c.from(0, 1), c.from(0, 2), c.from(-6, -1))[0]
}

// work returns a box of up to so many stones, with a goal that is rather keen.
func (c chance) work(stones int) work {
	var w work
	for range c.from(1, stones) {
		w.l = append(w.l, c.stone())
	}
	w.goal = edge(c.from(0, []int{0, 3, 20, 100}[c.Intn(4)]), c.from(0, []int{0, 2, 6}[c.Intn(3)]))
	return w
}

// checkEdge checks what is told of an edge of a work, of which the needs are known, also without each of the stones.
func checkEdge(t *testing.T, w work, n needs, without []needs, e api.HoneEdge) {
	t.Helper()
	need, ok := n[e]
	want := api.OK
	var best, spare []int
	var rows [][]int
	ends := map[int]bool{}
	if !ok {
		want = api.ErrPlan
	} else {
		best = n.best(w, e)
		n.ends(w, e, map[api.HoneEdge]bool{}, ends)
		for strokes := range need {
			rows = append(rows, n.row(strokes))
		}
		for stone := range w.l {
			if other, ok := without[stone][e]; ok && other == need {
				spare = append(spare, stone)
			}
		}
	}
	if got, err := hone.Best(w.l, e, w.goal); !slices.Equal(got, best) || err != want {
		t.Errorf("%v, %v: Best is %v, %d, not %v, %d", w, e, got, err, best, want)
	}
	if got, err := hone.Rows(w.l, e, w.goal); !equal(got, rows) || err != want {
		t.Errorf("%v, %v: Rows is %v, %d, not %v, %d", w, e, got, err, rows, want)
	}
	if got, err := hone.Spare(w.l, e, w.goal); !slices.Equal(got, spare) || err != want {
		t.Errorf("%v, %v: Spare is %v, %d, not %v, %d", w, e, got, err, spare, want)
	}
	if got, err := hone.Ends(w.l, e, w.goal); !slices.Equal(got, sorted(ends)) || err != want {
		t.Errorf("%v, %v: Ends is %v, %d, not %v, %d", w, e, got, err, sorted(ends), want)
	}
}

// P7.3 to P7.8
func TestModel(t *testing.T) {
	c := chance{rand.New(rand.NewSource(1))}
	several, far, never, long := 0, 0, 0, 0
	for range 300 {
		w := c.work(6)
		n := w.needs()
		most := n.most()
		var without []needs
		for stone := range w.l {
			without = append(without, w.without(stone).needs())
		}
		for _, strokes := range of(0, 1, 2, 3, most-1, most, most+1, 800, c.Intn(801)) {
			row, err := hone.Far(w.l, w.goal, strokes)
			if strokes >= 0 && (!slices.Equal(row, n.row(strokes)) || err != api.OK) {
				t.Errorf("%v: Far of %d is %v, %d, not %v", w, strokes, row, err, n.row(strokes))
			}
		}
		if row, err := hone.Last(w.l, w.goal); !slices.Equal(row, n.row(800)) || err != api.OK {
			t.Errorf("%v: Last is %v, %d, not %v", w, row, err, n.row(800))
		}
		for range 4 {
			e := c.edge(100)
			checkEdge(t, w, n, without, e)
			need, ok := n[e]
			ends, _ := hone.Ends(w.l, e, w.goal)
			count(&several, len(ends) > 1)
			count(&far, need > 5)
			count(&long, need > 50)
			count(&never, !ok)
		}
		if t.Failed() {
			return
		}
	}
	if several < 100 || far < 200 || never < 200 || long < 20 {
		t.Errorf("%d, %d, %d, %d edges: too few tell something", several, far, never, long)
	}
}

// count counts what is so.
func count(n *int, so bool) {
	if so {
		*n++
	}
}

// lists yields all lists of so many strokes over so many stones, in lexicographic order; the list changes.
func lists(stones, strokes int, yield func(list []int)) {
	list := make([]int, strokes)
	for {
		yield(list)
		at := strokes - 1
		for at >= 0 && list[at] == stones-1 {
			list[at] = 0
			at--
		}
		if at < 0 {
			return
		}
		list[at]++
	}
}

// reaches reports whether strokes reach the goal.
func (w work) reaches(e api.HoneEdge, strokes []int) bool {
	for _, stone := range strokes {
		next, ok := after(w.l[stone], e)
		if !ok {
			return false
		}
		e = next
	}
	return asKeen(e, w.goal)
}

// P7.2, P7.3, P7.7, P7.8: all lists of strokes
func TestAllStrokes(t *testing.T) {
	c := chance{rand.New(rand.NewSource(2))}
	told := map[int]int{}
	for range 4000 {
		w := c.work(3)
		e := c.edge(20)
		best, err := hone.Best(w.l, e, w.goal)
		if err != api.OK || len(best) > 6 {
			continue
		}
		told[len(best)]++
		for fewer := range len(best) {
			lists(len(w.l), fewer, func(list []int) {
				if w.reaches(e, list) {
					t.Errorf("%v, %v: Best is %v, but %v reach it", w, e, best, list)
				}
			})
		}
		spare, ends := map[int]bool{}, map[int]bool{}
		var first []int
		lists(len(w.l), len(best), func(list []int) {
			end, err := hone.After(w.l, e, list)
			if (err == api.OK && asKeen(end, w.goal)) != w.reaches(e, list) {
				t.Errorf("%v, %v: After of %v is %v, %d", w, e, list, end, err)
			}
			if !w.reaches(e, list) {
				return
			}
			if len(ends) == 0 {
				first = slices.Clone(list)
			}
			for stone := range w.l {
				if !slices.Contains(list, stone) {
					spare[stone] = true
				}
			}
			if len(list) > 0 {
				ends[list[len(list)-1]] = true
			}
		})
		if !slices.Equal(best, first) {
			t.Errorf("%v, %v: Best is %v, not %v", w, e, best, first)
		}
		if got, _ := hone.Spare(w.l, e, w.goal); !slices.Equal(got, sorted(spare)) {
			t.Errorf("%v, %v: Spare is %v, not %v", w, e, got, sorted(spare))
		}
		if got, _ := hone.Ends(w.l, e, w.goal); !slices.Equal(got, sorted(ends)) {
			t.Errorf("%v, %v: Ends is %v, not %v", w, e, got, sorted(ends))
		}
	}
	for strokes := range 7 {
		if told[strokes] < 50 {
			t.Errorf("so many edges need so many strokes: %v: too few tell something", told)
		}
	}
}

// inRow reports whether an edge is in a row.
func inRow(row []int, e api.HoneEdge) bool { return e.Depth <= row[e.Burr] }

// stays reports whether each edge that is not in a row leads, by any stroke, to one that is not in the one before.
func (w work) stays(before, row []int) bool {
	for _, e := range edges() {
		if inRow(row, e) {
			continue
		}
		for _, s := range w.l {
			if next, ok := after(s, e); ok && inRow(before, next) {
				return false
			}
		}
	}
	return true
}

// prove reports whether rows prove that an edge needs as many strokes.
func (w work) prove(e api.HoneEdge, rows [][]int) bool {
	for i, row := range rows {
		if inRow(row, e) || i > 0 && !w.stays(rows[i-1], row) {
			return false
		}
	}
	return len(rows) == 0 || w.covers(rows[0])
}

// covers reports whether each edge that has reached the goal is in a row.
func (w work) covers(row []int) bool {
	for _, e := range edges() {
		if asKeen(e, w.goal) && !inRow(row, e) {
			return false
		}
	}
	return true
}

// bent returns a row that is changed a little, or much, but still a row.
func (c chance) bent(row []int) []int {
	row = slices.Clone(row)
	switch c.Intn(4) {
	case 0:
		row[c.Intn(7)] += c.from(-1, 1)
	case 1:
		for burr := range row {
			row[burr] += c.from(0, 9)
		}
	case 2:
		row[c.Intn(7)] = c.from(-1, 100)
	}
	for burr := range row {
		row[burr] = max(-1, min(100, row[burr]))
	}
	slices.Sort(row)
	slices.Reverse(row)
	return row
}

// P7.4 (CheckRows)
func TestProveRows(t *testing.T) {
	c := chance{rand.New(rand.NewSource(3))}
	right, wrong := 0, 0
	for range 800 {
		w := c.work(3)
		n := w.needs()
		e := c.edge(100)
		for range 3 {
			var rows [][]int
			for strokes := range c.Intn(5) {
				row := n.row(strokes)
				if c.Intn(3) == 0 {
					row = c.bent(row)
				}
				rows = append(rows, row)
			}
			want := api.OK
			if !w.prove(e, rows) {
				want = api.ErrSum
			}
			if err := hone.CheckRows(w.l, e, w.goal, rows); err != want {
				t.Fatalf("%v, %v: CheckRows of %v is %d, not %d", w, e, rows, err, want)
			}
			count(&right, want == api.OK && len(rows) > 1)
			count(&wrong, want != api.OK)
		}
	}
	if right < 300 || wrong < 300 {
		t.Errorf("%d rows prove, %d do not: too few tell something", right, wrong)
	}
}

// P7.6 (CheckNever)
func TestProveNever(t *testing.T) {
	c := chance{rand.New(rand.NewSource(4))}
	right, wrong, wide := 0, 0, 0
	for range 1500 {
		w := c.work(2)
		last := w.needs().row(800)
		for range 2 {
			e, row := c.edge(100), c.bent(last)
			want := api.OK
			if inRow(row, e) || !w.covers(row) || !w.stays(row, row) {
				want = api.ErrSum
			}
			if err := hone.CheckNever(w.l, e, w.goal, row); err != want {
				t.Fatalf("%v, %v: CheckNever of %v is %d, not %d", w, e, row, err, want)
			}
			count(&right, want == api.OK)
			count(&wide, want == api.OK && !slices.Equal(row, last))
			count(&wrong, want != api.OK)
		}
	}
	if right < 300 || wrong < 300 || wide < 100 {
		t.Errorf("%d rows prove, %d of them wide, %d do not: too few tell something", right, wide, wrong)
	}
}
