package heat

import "cmp"

// grown returns a list with one more element. The list itself keeps its end: two lists that grow out of it do not meet.
func grown[T any](list []T, more T) []T {
	return append(list[:len(list):len(list)], more)
}

// taken returns a list as a result: without the room that growing left behind it.
func taken[T any](list []T) []T {
	out := make([]T, len(list))
	copy(out, list)
	return out
}

// leastAt returns the index of the least element, the first one of several.
func leastAt[T cmp.Ordered](list []T) int {
	at := 0
	for i, x := range list {
		if x < list[at] {
			at = i
		}
	}
	return at
}
