package heat

import "bolster/api"

// areHard reports whether all numbers are hardnesses.
func areHard(numbers ...int64) bool {
	for _, n := range numbers {
		if n < 0 || n > api.MaxHeatHard {
			return false
		}
	}
	return true
}

// isHardRange reports whether a range is valid, with hardnesses as ends.
func isHardRange(r api.Range) bool {
	return areHard(r.Lo, r.Hi) && r.Lo <= r.Hi
}

func contains(r api.Range, number int64) bool {
	return r.Lo <= number && number <= r.Hi
}

// kinksInRange reports whether each From, and each After, is as described.
func kinksInRange(kinks []api.HeatKink) bool {
	for i, k := range kinks {
		if !areHard(k.From) || !isHardRange(k.After) {
			return false
		}
		if i == 0 && k.From != 0 || i > 0 && k.From <= kinks[i-1].From {
			return false
		}
	}
	return true
}

// kinksInOrder reports whether what was harder before is not softer after it, and no hardness between is left out.
func kinksInOrder(kinks []api.HeatKink) bool {
	for i := 1; i < len(kinks); i++ {
		a, b := kinks[i-1].After, kinks[i].After
		if b.Lo < a.Lo || b.Hi < a.Hi || b.Lo > a.Hi+1 {
			return false
		}
	}
	return true
}

// countsInRange reports whether there are neither too few nor too many bars, steps and ways.
func countsInRange(w api.HeatWorks) bool {
	if len(w.Bars) < 1 || len(w.Bars) > api.MaxHeatBars || len(w.Steps) > api.MaxHeatSteps {
		return false
	}
	for _, s := range w.Steps {
		if len(s.Ways) < 1 || len(s.Ways) > api.MaxHeatWays {
			return false
		}
	}
	return true
}

// checkRecipe returns the error of the works, or else that of the recipe.
func checkRecipe(w api.HeatWorks, r api.HeatRecipe) api.Errno {
	if e := CheckWorks(w); e != api.OK {
		return e
	}
	if len(r.Ways) != len(w.Steps) {
		return api.ErrEqual
	}
	if r.Bar < 0 || r.Bar >= len(w.Bars) {
		return api.ErrRange
	}
	for step, way := range r.Ways {
		if way < 0 || way >= len(w.Steps[step].Ways) {
			return api.ErrRange
		}
	}
	return api.OK
}
