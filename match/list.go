package match

import "iter"

// grown returns a list with more elements. The list itself keeps its end: two lists that grow out of it do not meet.
func grown[T any](list []T, more ...T) []T {
	return append(list[:len(list):len(list)], more...)
}

// taken returns a list as a result: in memory of its own, without the room that growing left behind it.
func taken[T any](list []T) []T {
	out := make([]T, len(list))
	copy(out, list)
	return out
}

// first returns the first element that is good, and whether there is one.
func first[T any](all iter.Seq[T], isGood func(T) bool) (T, bool) {
	for x := range all {
		if isGood(x) {
			return x, true
		}
	}
	var none T
	return none, false
}
