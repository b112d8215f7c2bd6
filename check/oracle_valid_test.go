package check

import (
	"slices"

	"lathe/api"
	"lathe/sign"
)

// toldValid is Valid by the chapter's words.
func toldValid(t api.Tx, list []api.Param) api.Errno {
	if e := sign.Check(list); e != api.OK {
		return e
	}
	depth, count := measured(t)
	if depth > maxDepth {
		return errDeep
	}
	if count > maxNodes {
		return errMany
	}
	scene := scene{list: list, active: map[int]bool{}}
	for i := range list {
		scene.active[i] = true
	}
	return scene.valid(t)
}

// measured are how deep a transform is, and how many transforms and schedules it has.
func measured(t api.Tx) (int, int) {
	depth, count := measuredSched(t.Sched)
	depth = max(depth, 1)
	for _, k := range t.Kids {
		d, c := measured(k)
		depth, count = max(depth, d+1), count+c
	}
	return depth, count + 1
}

func measuredSched(s api.Sched) (int, int) {
	depth, count := 1, 1
	if isZero(s) {
		count = 0
	}
	for _, k := range s.Kids {
		d, c := measuredSched(k)
		depth, count = max(depth, d+1), count+c
	}
	return depth, count
}

func isZero(s api.Sched) bool {
	return s.Op == 0 && len(s.Nums)+len(s.Ints)+len(s.Kids) == 0
}

func (c scene) valid(t api.Tx) api.Errno {
	scheds := 0
	if !isZero(t.Sched) {
		scheds = 1
	}
	i := slices.IndexFunc(theTransforms(), func(s spec) bool { return s.op == t.Op })
	if i < 0 || !theTransforms()[i].has(t.Nums, t.Ints, len(t.Masks), scheds, len(t.Kids)) {
		return errArg
	}
	for _, m := range t.Masks {
		for i, place := range m {
			if place < 0 || place >= len(c.list) || i > 0 && m[i-1] >= place {
				return errArg
			}
		}
	}
	if theTransforms()[i].star && c.seesComplex() {
		return errComplex
	}
	if scheds == 1 && !validSched(t.Sched) {
		return errArg
	}
	for i, k := range t.Kids {
		if e := c.kid(t.Op, t.Masks, i).valid(k); e != api.OK {
			return e
		}
	}
	return api.OK
}

// validSched tells whether a schedule may be. Polynomials and joins are asked by the rows of these names.
func validSched(s api.Sched) bool {
	i := slices.IndexFunc(theSchedules(), func(o spec) bool { return o.op == s.Op && o.name != "linear" && o.name != "warmup" })
	return i >= 0 && theSchedules()[i].has(s.Nums, s.Ints, 0, len(s.Kids), 0) && !slices.ContainsFunc(s.Kids, func(k api.Sched) bool { return !validSched(k) })
}

// has tells whether a row has just these numbers, and so many masks, schedules and kids.
func (s spec) has(nums []api.F, ints []int, masks, scheds, kids int) bool {
	slots, ok := s.slots(len(nums) + len(ints) + masks + scheds + kids)
	if !ok {
		return false
	}
	var numSlots, intSlots []slot
	for _, o := range slots {
		switch o.sort {
		case "num":
			numSlots = append(numSlots, o)
		case "whole", "flag":
			intSlots = append(intSlots, o)
		case "mask":
			masks--
		case "schedule":
			scheds--
		case "transform":
			kids--
		}
	}
	if len(numSlots) != len(nums) || len(intSlots) != len(ints) || masks != 0 || scheds != 0 || kids != 0 {
		return false
	}
	for i, o := range numSlots {
		if !o.holds(nums[i]) {
			return false
		}
	}
	for i, o := range intSlots {
		if !o.holdsWhole(ints[i], ints[:i]) {
			return false
		}
	}
	return true
}
