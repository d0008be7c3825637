package pass

import "iter"

// grown returns a list with one more element. The list itself keeps its end: two lists that grow out of it do not meet.
func grown[T any](list []T, more T) []T {
	return append(list[:len(list):len(list)], more)
}

// taken returns a list as a result: in memory of its own, without the room that growing left behind it.
func taken[T any](list []T) []T {
	out := make([]T, len(list))
	copy(out, list)
	return out
}

// first returns the index of the first element of a kind, and whether there is one.
func first[T any](all iter.Seq[T], isOne func(T) bool) (int, bool) {
	at := 0
	for x := range all {
		if isOne(x) {
			return at, true
		}
		at++
	}
	return 0, false
}
