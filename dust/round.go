package dust

import (
	"cmp"
	"iter"
	"slices"

	"bolster/api"
)

// laps returns a course whose runs are one work longer than there are works, so that each has some work twice. The last work counts for nothing: what is between a work and the same one again counts as a round does.
func (s *shop) laps() *course {
	last := noRuns()
	clear(last[:len(s.Dust)])
	return s.course(last, len(s.Dust))
}

// rounds yields, for each work from which runs go on for longer than there are works, the first round in the one with the most dust. (One of these rounds has the greatest mean. Let each hour count for its dust less this mean: then no round counts for more than 0, and some round for just 0. To go round that one, as often as one likes, and then on by what counts most, counts for as much as anything does from there: so does, from some work of it, a run of just as many hours as there are works. A round in such a run cannot count for less than 0, or the run without it would count for more.)
func (s *shop) rounds() iter.Seq[[]int] {
	return func(yield func(round []int) bool) {
		var met marks
	search:
		for work := range s.works(s.laps().begun().has) {
			clear(met[:])
			var run []int
			for at := range s.laps().run(work) {
				if met[at] {
					if !yield(run[slices.Index(run, at):]) {
						return
					}
					continue search
				}
				met[at] = true
				run = grown(run, at)
			}
		}
	}
}

// compareMeans compares two rounds by their means.
func (s *shop) compareMeans(one, other []int) int {
	return cmp.Compare(s.sum(one)*int64(len(other)), s.sum(other)*int64(len(one)))
}

// mean returns the mean of a round in least terms.
func (s *shop) mean(round []int) api.Ratio {
	num, den := s.sum(round), int64(len(round))
	by, rest := den, num
	for rest != 0 {
		by, rest = rest, by%rest
	}
	return api.Ratio{Num: num / by, Den: den / by}
}

// gains yields what runs that begin with a work gain over a mean, times Den: for each number of hours, the one with the most dust. (The greatest gain is a level that helps to prove the mean: with a work before it, a run is longer by one hour; and if it is too long for the rows then, it has a round, without which it gains no less.)
func (c *course) gains(work int, mean api.Ratio) iter.Seq[int64] {
	return func(yield func(gain int64) bool) {
		for hours, r := range c.rows {
			if r.has(work) && !yield(mean.Den*r[work]-int64(hours)*mean.Num) {
				return
			}
		}
	}
}
