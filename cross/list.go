package cross

import "iter"

// grown returns a list with one more element. The list itself keeps its end: two lists that grow out of it do not meet.
func grown[T any](list []T, more T) []T {
	return append(list[:len(list):len(list)], more)
}

// taken returns a list as a result: in memory of its own, without the room that growing left behind it.
func taken[T any](list []T) []T {
	out := make([]T, len(list))
	copy(out, list)
	return out
}

// leastOf returns the least of one and more, as isLess tells it.
func leastOf[T any](one T, more iter.Seq[T], isLess func(one, two T) bool) T {
	least := one
	for x := range more {
		if isLess(x, least) {
			least = x
		}
	}
	return least
}
