package samples

import (
	"slices"

	"lathe/api"
)

// steps is a whole number from low on: mostly small, sometimes any, sometimes about MaxCount.
func (g *Grower) steps(low int) int {
	switch g.Below(8) {
	case 0:
		return 1<<31 - 1 - g.Below(3)
	case 1:
		return max(low, int(g.Next()>>1))
	}
	return low + g.Below(9)
}

// boundaries are so many that rise.
func (g *Grower) boundaries(count int) []int {
	var list []int
	for len(list) < count {
		list = append(list, g.steps(1))
		slices.Sort(list)
		list = slices.Compact(list)
	}
	return list
}

// Schedule is one that may be, at most so deep.
func (g *Grower) Schedule(depth int) api.Sched {
	op := api.SchedConstant + g.Below(api.SchedHold)
	for depth == 1 && op >= api.SchedJoin && op != api.SchedInverse {
		op = api.SchedConstant + g.Below(api.SchedHold)
	}
	return g.ScheduleOf(op, depth)
}

// ScheduleOf is one of that Op.
func (g *Grower) ScheduleOf(op, depth int) api.Sched {
	s := api.Sched{Op: op}
	nums, kids := "a", 0
	switch op {
	case api.SchedPolynomial:
		nums, s.Ints = "aa", []int{1 + g.Below(5), g.steps(1), g.steps(0)}
	case api.SchedExponential:
		nums, s.Ints = "ap", []int{g.steps(1), g.steps(0)}
	case api.SchedCosine:
		nums, s.Ints = "aa", []int{g.steps(1)}
	case api.SchedInverse:
		s.Ints = []int{g.steps(1)}
	case api.SchedPiecewise:
		s.Ints = g.boundaries(1 + g.Below(3))
		nums = "aaaa"[:len(s.Ints)+1]
	case api.SchedJoin:
		s.Ints = g.boundaries(1 + g.Below(3))
		nums, kids = "", len(s.Ints)+1
	case api.SchedPlus, api.SchedTimes, api.SchedLeast, api.SchedMost:
		nums, kids = "", 2
	case api.SchedAfter, api.SchedHold:
		nums, kids, s.Ints = "", 1, []int{g.steps(0)}
	}
	for i := range nums {
		s.Nums = append(s.Nums, g.Bounded(nums[i]))
	}
	for range kids {
		s.Kids = append(s.Kids, g.Schedule(max(depth-1, 1)))
	}
	return s
}
