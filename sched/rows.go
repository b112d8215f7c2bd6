package sched

import (
	"slices"

	"lathe/api"
	"lathe/float"
)

// mayBe tells whether a schedule may be, which may go so deep, and be one of so many that are left. It gives up at the first fault,
// so that it ends even if a schedule stands within itself.
func mayBe(s *api.Sched, depth int, left *int) bool {
	*left--
	if depth == 0 || *left < 0 || !fitsRow(s) {
		return false
	}
	for i := range s.Kids {
		if !mayBe(&s.Kids[i], depth-1, left) {
			return false
		}
	}
	return true
}

// fitsRow tells whether a schedule has just what its row says. What its Kids are is not asked.
func fitsRow(s *api.Sched) bool {
	switch s.Op {
	case api.SchedConstant:
		return has(s, 1, 0, 0)
	case api.SchedPolynomial:
		return has(s, 2, 3, 0) && isPower(s.Ints[0]) && isSteps(s.Ints[1]) && isCount(s.Ints[2])
	case api.SchedExponential:
		return has(s, 2, 2, 0) && float.Less(api.Zero, s.Nums[1]) && isSteps(s.Ints[0]) && isCount(s.Ints[1])
	case api.SchedCosine:
		return has(s, 2, 1, 0) && isSteps(s.Ints[0])
	case api.SchedPiecewise:
		return has(s, len(s.Ints)+1, len(s.Ints), 0) && areBoundaries(s.Ints)
	case api.SchedJoin:
		return has(s, 0, len(s.Ints), len(s.Ints)+1) && areBoundaries(s.Ints)
	case api.SchedInverse:
		return has(s, 1, 1, 0) && isSteps(s.Ints[0])
	case api.SchedPlus, api.SchedTimes, api.SchedLeast, api.SchedMost:
		return has(s, 0, 0, 2)
	case api.SchedAfter, api.SchedHold:
		return has(s, 0, 1, 1) && isCount(s.Ints[0])
	}
	return false
}

// has tells whether a schedule has so many of each, its numbers being finite.
func has(s *api.Sched, nums, ints, kids int) bool {
	return len(s.Nums) == nums && len(s.Ints) == ints && len(s.Kids) == kids && !slices.ContainsFunc(s.Nums, isNotFinite)
}

func isNotFinite(a api.F) bool { return !float.Finite(a) }

func isPower(n int) bool { return 1 <= n && n <= api.MaxPower }

func isSteps(n int) bool { return 1 <= n && n <= api.MaxCount }

// isCount is of steps that there have been, as begins are.
func isCount(n int) bool { return 0 <= n && n <= api.MaxCount }

// areBoundaries tells whether there is one at least, and they rise from 1 on.
func areBoundaries(list []int) bool {
	ahead := 0
	for _, n := range list {
		if n <= ahead || n > api.MaxCount {
			return false
		}
		ahead = n
	}
	return ahead > 0
}
