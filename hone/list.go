package hone

import (
	"cmp"
	"iter"
)

// grown returns a list with one more element. The list itself keeps its end: two lists that grow out of it do not meet.
func grown[T any](list []T, more T) []T {
	return append(list[:len(list):len(list)], more)
}

// taken returns a list as a result: in memory of its own, without the room that growing left behind it.
func taken[T any](list []T) []T {
	out := make([]T, len(list))
	copy(out, list)
	return out
}

// greatest returns the greatest one of several numbers, and whether there is any.
func greatest[N cmp.Ordered](numbers iter.Seq[N]) (N, bool) {
	var greatest N
	found := false
	for n := range numbers {
		if !found || n > greatest {
			greatest, found = n, true
		}
	}
	return greatest, found
}
