package keen

import (
	"cmp"
	"iter"
)

// grown returns a list with one more element. The list itself keeps its end: two lists that grow out of it do not meet.
func grown[T any](list []T, more T) []T {
	return append(list[:len(list):len(list)], more)
}

// taken returns a list as a result: in memory of its own, without the room that growing left behind it.
func taken[T any](list []T) []T {
	out := make([]T, len(list))
	copy(out, list)
	return out
}

// greatestBy returns the element for which by is greatest, the first one of several.
func greatestBy[T any, N cmp.Ordered](all iter.Seq[T], by func(T) N) T {
	var greatest T
	var number N
	found := false
	for x := range all {
		n := by(x)
		if !found || n > number {
			greatest, number, found = x, n, true
		}
	}
	return greatest
}
