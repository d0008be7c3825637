package hone

import (
	"cmp"

	"bolster/api"
)

// areFrom reports whether each number is from least to greatest.
func areFrom[N cmp.Ordered](least, greatest N, numbers ...N) bool {
	for _, n := range numbers {
		if n < least || n > greatest {
			return false
		}
	}
	return true
}

// isStone reports whether a stone is as described.
func isStone(s api.HoneStone) bool {
	return areFrom(0, api.MaxHoneDepth, s.Grit, s.Cut) && areFrom(-api.MaxHoneBurr, api.MaxHoneBurr, s.Burr)
}

// isEdge reports whether an edge is as described.
func isEdge(e api.HoneEdge) bool {
	return areFrom(0, api.MaxHoneDepth, e.Depth) && areFrom(0, api.MaxHoneBurr, e.Burr)
}

// check returns the box of stones, or the error of CheckBox, or ErrArg if edges are not as described.
func check(l []api.HoneStone, edges ...api.HoneEdge) (box, api.Errno) {
	if err := CheckBox(l); err != api.OK {
		return box{}, err
	}
	for _, e := range edges {
		if !isEdge(e) {
			return box{}, api.ErrArg
		}
	}
	return box{l}, api.OK
}

// checkReach returns the course of an edge to a goal, or the error of check, or ErrPlan if it cannot reach it.
func checkReach(l []api.HoneStone, e, goal api.HoneEdge) (*course, api.Errno) {
	b, err := check(l, e, goal)
	if err != api.OK {
		return nil, err
	}
	c, ok := b.course(e, reaches(goal))
	if !ok {
		return nil, api.ErrPlan
	}
	return c, api.OK
}
