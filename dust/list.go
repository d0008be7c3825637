package dust

import "iter"

// grown returns a list with one more element. The list itself keeps its end: two lists that grow out of it do not meet.
func grown[T any](list []T, more T) []T {
	return append(list[:len(list):len(list)], more)
}

// taken returns a list as a result: in memory of its own, without the room that growing left behind it.
func taken[T any](list []T) []T {
	out := make([]T, len(list))
	copy(out, list)
	return out
}

// gathered returns all elements as a result.
func gathered[T any](all iter.Seq[T]) []T {
	var list []T
	for x := range all {
		list = grown(list, x)
	}
	return taken(list)
}

// greatest returns the greatest one of several, the first one of those that are equal, and whether there is any.
func greatest[T any](all iter.Seq[T], compare func(one, other T) int) (T, bool) {
	var greatest T
	found := false
	for x := range all {
		if !found || compare(x, greatest) > 0 {
			greatest, found = x, true
		}
	}
	return greatest, found
}
