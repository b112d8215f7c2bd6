package sched

import (
	"testing"

	"lathe/api"
)

// holdCheck: the schedule may be or may not; Value says the same.
func holdCheck(t *testing.T, what string, s api.Sched, good bool) {
	t.Helper()
	want := errArg
	if good {
		want = api.OK
	}
	if e := Check(s); e != want {
		t.Errorf("%s: Check = %d", what, e)
	}
	for _, step := range []int{0, 3, maxCount} {
		if got, e := Value(s, step); e != want || !good && got != 0 {
			t.Errorf("%s: Value at %d = %08x, %d", what, step, got, e)
		}
	}
}

// wraps are what a schedule may stand in, one deeper.
func wraps() map[string]func(api.Sched) api.Sched {
	c := constantOf(one)
	return map[string]func(api.Sched) api.Sched{
		"plus first":   func(s api.Sched) api.Sched { return twoOf(opPlus, s, c) },
		"plus second":  func(s api.Sched) api.Sched { return twoOf(opPlus, c, s) },
		"times first":  func(s api.Sched) api.Sched { return twoOf(opTimes, s, c) },
		"least second": func(s api.Sched) api.Sched { return twoOf(opLeast, c, s) },
		"most first":   func(s api.Sched) api.Sched { return twoOf(opMost, s, c) },
		"join first":   func(s api.Sched) api.Sched { return joinOf([]int{1}, s, c) },
		"join last":    func(s api.Sched) api.Sched { return joinOf([]int{1, 2}, c, c, s) },
		"after":        func(s api.Sched) api.Sched { return afterOf(1, s) },
		"hold":         func(s api.Sched) api.Sched { return holdOf(s, 5) },
	}
}

// deep is a schedule of that depth.
func deep(depth int, inner api.Sched, wrap func(api.Sched) api.Sched) api.Sched {
	for range depth - 1 {
		inner = wrap(inner)
	}
	return inner
}

// TestDepth: SC1, schedules as deep as may be, and deeper.
func TestDepth(t *testing.T) {
	for name, wrap := range wraps() {
		for _, inner := range []api.Sched{constantOf(one), polynomialOf(one, zero, 2, 3, 0), piecesOf([]int{2}, one, half)} {
			for _, depth := range []int{1, 2, maxDepth - 1, maxDepth, maxDepth + 1, maxDepth + 2, 1000} {
				holdCheck(t, name, deep(depth, inner, wrap), depth <= maxDepth)
			}
		}
		holdCheck(t, name, deep(maxDepth, api.Sched{}, wrap), false)
	}
	step := func(s api.Sched) api.Sched { return afterOf(1, s) }
	holdCheck(t, "very deep", deep(1<<16, constantOf(one), step), false)
	c := constantOf(one)
	for place := range 3 {
		for depth := maxDepth - 1; depth <= maxDepth+1; depth++ {
			kids := []api.Sched{c, c, c}
			kids[place] = deep(depth-1, c, step)
			holdCheck(t, "one of Kids deep", joinOf([]int{1, 2}, kids...), depth <= maxDepth)
		}
	}
	holdValue(t, deep(maxDepth, ramp(), step), 100, 0x42140000)            // 100 - 63
	holdValue(t, deep(maxDepth, ramp(), step), 63, zero)                   //
	holdValue(t, deep(maxDepth, ramp(), step), 64, one)                    //
	holdValue(t, deep(maxDepth, c, wraps()["plus second"]), 1, 0x42800000) // 64
}

// leaves is a schedule of so many in all, not deep.
func leaves(count int) api.Sched {
	switch {
	case count == 1:
		return constantOf(one)
	case count == 2:
		return holdOf(constantOf(one), 2)
	}
	first := (count - 1) / 2
	return twoOf(opPlus, leaves(first), leaves(count-1-first))
}

// joinedOf is a join of so many constants, each of them half its place.
func joinedOf(count int) api.Sched {
	s := joinOf(nil)
	for i := range count {
		if i > 0 {
			s.Ints = append(s.Ints, i)
		}
		s.Kids = append(s.Kids, constantOf(valueHalf(i)))
	}
	return s
}

// TestCount: SC1, as many schedules as may be, and more.
func TestCount(t *testing.T) {
	for _, count := range []int{5, 6, 1000, maxNodes - 2, maxNodes - 1, maxNodes, maxNodes + 1, maxNodes + 2, 2 * maxNodes, 100000} {
		good := count <= maxNodes
		holdCheck(t, "leaves", leaves(count), good)
		holdCheck(t, "one join", joinedOf(count-1), good)
		holdCheck(t, "a join within", afterOf(2, joinedOf(count-2)), good)
		if count > 9 {
			holdCheck(t, "two joins", twoOf(opPlus, joinedOf(count/2), joinedOf(count-count/2-3)), good)
			holdCheck(t, "many and one", twoOf(opTimes, joinedOf(count-3), constantOf(one)), good)
			holdCheck(t, "one and many", twoOf(opTimes, constantOf(one), joinedOf(count-3)), good)
			last := joinedOf(count - 1)
			last.Kids[count-2] = api.Sched{}
			holdCheck(t, "the last at fault", last, false)
			last.Kids[count-2], last.Kids[0] = constantOf(one), constantOf(nan)
			holdCheck(t, "the first at fault", last, false)
		}
	}
	full := joinedOf(maxNodes - 1)
	for i := range maxNodes - 1 {
		holdValue(t, full, i, valueHalf(i))
	}
	holdValue(t, full, maxCount, valueHalf(maxNodes-2))
	holdValue(t, leaves(maxNodes-1), 7, 0x45000000) // 2048 leaves
}

// TestBoth: SC1, depth and count at their limits, and one of them or both beyond.
func TestBoth(t *testing.T) {
	step := func(s api.Sched) api.Sched { return holdOf(s, 9) }
	for depth := maxDepth - 1; depth <= maxDepth+1; depth++ {
		for count := maxNodes - 1; count <= maxNodes+1; count++ {
			good := depth <= maxDepth && count <= maxNodes
			rest := count - depth // so many in the join beside the deep one
			first := joinedOf(rest)
			first.Kids = append([]api.Sched{deep(depth-1, constantOf(one), step)}, first.Kids...)
			first.Ints = append(first.Ints, rest)
			holdCheck(t, "the first deep", first, good)
			last := joinedOf(rest)
			last.Kids = append(last.Kids, deep(depth-1, constantOf(one), step))
			last.Ints = append(last.Ints, rest)
			holdCheck(t, "the last deep", last, good)
			below := deep(depth-1, joinedOf(count-depth+1), step)
			holdCheck(t, "the join deep", below, good)
		}
	}
}

// TestShared: SC1, a schedule that stands in several places counts each time, and one within itself has no end.
func TestShared(t *testing.T) {
	s := constantOf(one)
	for depth := 1; depth <= maxDepth+1; depth++ {
		holdCheck(t, "doubled", s, depth <= 12)
		if depth == 12 {
			holdValue(t, s, 0, 0x45000000) // 2^11 times 1
		}
		s = twoOf(opPlus, s, s)
	}
	ring := make([]api.Sched, 2)
	ring[0], ring[1] = api.Sched{Op: opPlus, Kids: ring}, constantOf(one)
	holdCheck(t, "within itself", ring[0], false)
	ring[0], ring[1] = constantOf(one), api.Sched{Op: opPlus, Kids: ring}
	holdCheck(t, "within itself, second", ring[1], false)
	ring[0] = ring[1]
	holdCheck(t, "within itself twice", ring[0], false)
	loop := make([]api.Sched, 1)
	loop[0] = api.Sched{Op: 12, Ints: []int{0}, Kids: loop}
	holdCheck(t, "after within itself", loop[0], false)
}

// TestManyPieces: SC1, boundaries and scales have no limit but their row's.
func TestManyPieces(t *testing.T) {
	const count = 1000000
	s := piecesOf(nil, one)
	for i := range count {
		s.Nums, s.Ints = append(s.Nums, one), append(s.Ints, i+1)
	}
	s.Nums[count] = half
	s.Nums[count/2] = three
	holdValue(t, s, count/2-1, one)
	holdValue(t, s, count/2, three)
	holdValue(t, s, count-1, three)
	holdValue(t, s, count, 0x3fc00000)
	s.Ints[count-1] = count - 1
	holdCheck(t, "the last one stands still", s, false)
	s.Ints[count-1], s.Nums[count] = count, inf
	holdCheck(t, "the last one infinite", s, false)
}

// TestSteps: SC1, steps without their bounds, at them and within, of schedules that may be and of such as may not.
func TestSteps(t *testing.T) {
	for _, s := range rowsOf() {
		for _, step := range []int{-1, -2, -maxCount, maxCount + 1, maxCount + 2, 1 << 32, 1<<32 + 1, minInt, minInt + 1, maxInt} {
			for _, s := range around(s) {
				if got, e := Value(s, step); got != 0 || e != errArg {
					t.Errorf("Value(%s, %d) = %08x, %d", brief(s), step, got, e)
				}
			}
			if got, e := Value(api.Sched{}, step); got != 0 || e != errArg {
				t.Errorf("Value of none at %d = %08x, %d", step, got, e)
			}
		}
		for _, step := range []int{0, 1, 2, 1 << 24, 1<<24 + 1, maxCount - 1, maxCount} {
			for _, s := range around(s) {
				valueOf(t, s, step)
			}
		}
	}
}
