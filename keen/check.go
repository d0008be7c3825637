package keen

import (
	"cmp"
	"slices"

	"bolster/api"
)

// areFrom reports whether each number is from least to greatest.
func areFrom[N cmp.Ordered](least, greatest N, numbers ...N) bool {
	for _, n := range numbers {
		if n < least || n > greatest {
			return false
		}
	}
	return true
}

// areEdges reports whether numbers are edges of a book, no two of them the same.
func areEdges(b api.KeenBook, numbers ...int) bool {
	for i, n := range numbers {
		if slices.Contains(numbers[:i], n) {
			return false
		}
	}
	return areFrom(0, b.Edges-1, numbers...)
}

// isDiff reports whether a range is one that a test can tell.
func isDiff(r api.Range) bool {
	return areFrom(-api.MaxKeenSharp, api.MaxKeenSharp, r.Lo, r.Hi) && r.Lo <= r.Hi
}

// contains reports whether a range contains both ends of another one.
func contains(r, other api.Range) bool { return areFrom(r.Lo, r.Hi, other.Lo, other.Hi) }

// check returns the web of a book, or the error of CheckBook.
func check(b api.KeenBook) (*web, api.Errno) {
	if e := CheckBook(b); e != api.OK {
		return nil, e
	}
	return &web{KeenBook: b}, api.OK
}

// checkAgree returns the web of a book with its trails, or the error of CheckBook, or ErrArg if numbers are not edges that differ, or ErrClash if the tests do not agree.
func checkAgree(b api.KeenBook, edges ...int) (*web, api.Errno) {
	w, e := check(b)
	if e != api.OK {
		return nil, e
	}
	if !areEdges(b, edges...) {
		return nil, api.ErrArg
	}
	for from := none; from < w.Edges; from++ {
		t, ok := w.follow(from)
		if !ok {
			return nil, api.ErrClash
		}
		w.trails = grown(w.trails, t)
	}
	return w, api.OK
}
