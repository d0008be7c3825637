package cross

import "bolster/api"

// No product here is beyond an int64: heights have amounts and Dens of at most 1,000, and slopes and lines between whole ones are not much greater. Lines between others, with Dens of at most 1,000 to the power of 3, are compared with heights alone.

// inLeastTerms returns the ratio num / den in least terms; den is not 0.
func inLeastTerms(num, den int64) api.Ratio {
	by, rest := num, den
	for rest != 0 {
		by, rest = rest, by%rest
	}
	if (by < 0) != (den < 0) { // Den has to be above 0
		by = -by
	}
	return api.Ratio{Num: num / by, Den: den / by}
}

// whole returns a whole number as a ratio.
func whole(n int64) api.Ratio { return api.Ratio{Num: n, Den: 1} }

// isLess reports whether a ratio is less than another one, isMore whether it is greater.
func isLess(one, two api.Ratio) bool { return one.Num*two.Den < two.Num*one.Den }
func isMore(one, two api.Ratio) bool { return isLess(two, one) }

// minus returns a ratio less another one.
func minus(one, two api.Ratio) api.Ratio {
	return inLeastTerms(one.Num*two.Den-two.Num*one.Den, one.Den*two.Den)
}
