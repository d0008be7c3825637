package pass

import (
	"cmp"

	"bolster/api"
)

// areFrom reports whether each number is from least to greatest.
func areFrom[N cmp.Ordered](least, greatest N, numbers ...N) bool {
	for _, n := range numbers {
		if n < least || n > greatest {
			return false
		}
	}
	return true
}

// isPass reports whether a pass is as described.
func isPass(p api.PassPass) bool {
	return areFrom(0, api.MaxPassHeat, p.Peak) && areFrom(-api.MaxPassHeat, p.Peak, p.Leaves)
}

// check returns the plate of a job that is valid, or the error of CheckJob.
func check(j api.PassJob) (*plate, api.Errno) {
	if e := CheckJob(j); e != api.OK {
		return nil, e
	}
	return newPlate(j), api.OK
}

// checkOrder returns the plate of a job, or the error of CheckOrder.
func checkOrder(j api.PassJob, order []int) (*plate, api.Errno) {
	w, e := check(j)
	if e != api.OK {
		return nil, e
	}
	if !areFrom(0, len(j.Rows)-1, order...) {
		return nil, api.ErrRange
	}
	var times position
	for _, row := range order {
		times[row]++
	}
	if times != w.last {
		return nil, api.ErrRule
	}
	return w, api.OK
}

// checkNames returns the plate of a job on which heats up to a limit are allowed, or ErrArg if a name is not that of a pass.
func checkNames(j api.PassJob, limit int64, names ...api.PassName) (*plate, api.Errno) {
	w, e := check(j)
	if e != api.OK {
		return nil, e
	}
	for _, name := range names {
		if !w.isName(name) {
			return nil, api.ErrArg
		}
	}
	w.allowed = within(limit)
	return w, api.OK
}
