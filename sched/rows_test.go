package sched

import (
	"slices"
	"testing"

	"lathe/api"
	"lathe/samples"
)

// around are schedules in which another one stands, at each place of each kind; the first one is itself.
func around(s api.Sched) []api.Sched {
	c := constantOf(half)
	all := []api.Sched{s}
	for op := opPlus; op <= opMost; op++ {
		all = append(all, twoOf(op, s, c), twoOf(op, c, s))
	}
	for place := range 4 {
		kids := []api.Sched{c, c, c, c}
		kids[place] = s
		all = append(all, joinOf([]int{1, 2, 3}, kids...))
	}
	all = append(all, afterOf(0, s), holdOf(s, 0), joinOf([]int{7}, s, c), joinOf([]int{7}, c, s))
	return append(all, twoOf(opPlus, twoOf(opTimes, c, c), afterOf(3, joinOf([]int{1}, c, holdOf(s, 5)))))
}

// holdGood: the schedule may be, by itself and within others.
func holdGood(t *testing.T, s api.Sched) {
	t.Helper()
	for _, s := range around(s) {
		if e := Check(s); e != api.OK {
			t.Errorf("Check(%s) = %d", brief(s), e)
		}
		for _, step := range []int{0, 1, 5, maxCount} {
			if got, e := Value(s, step); e != api.OK || !samples.IsTold(got) {
				t.Errorf("Value(%s, %d) = %08x, %d", brief(s), step, got, e)
			}
		}
	}
}

// holdBad: the schedule may not be, by itself and within others, whether or not a step's value hangs on it.
func holdBad(t *testing.T, s api.Sched) {
	t.Helper()
	for _, s := range around(s) {
		if e := Check(s); e != errArg {
			t.Errorf("Check(%s) = %d", brief(s), e)
		}
		for _, step := range []int{0, 1, 5, maxCount, -1, maxCount + 1} {
			if got, e := Value(s, step); got != 0 || e != errArg {
				t.Errorf("Value(%s, %d) = %08x, %d", brief(s), step, got, e)
			}
		}
	}
}

// rowsOf are schedules that may be, of each row, those with boundaries also with several.
func rowsOf() []api.Sched {
	c := constantOf(one)
	return []api.Sched{
		c,
		polynomialOf(one, half, 2, 4, 1),
		exponentialOf(one, half, 4, 1),
		cosineOf(one, half, 4),
		piecesOf([]int{4}, one, half),
		piecesOf([]int{4, 5, 9}, one, half, half, one),
		joinOf([]int{4}, c, c),
		joinOf([]int{4, 5, 9}, c, c, c, c),
		inverseOf(one, 4),
		twoOf(opPlus, c, c),
		twoOf(opTimes, c, c),
		twoOf(opLeast, c, c),
		twoOf(opMost, c, c),
		afterOf(4, c),
		holdOf(c, 4),
	}
}

// copied is a schedule in memory of its own.
func copied(s api.Sched) api.Sched {
	s.Nums, s.Ints, s.Kids = slices.Clone(s.Nums), slices.Clone(s.Ints), slices.Clone(s.Kids)
	for i := range s.Kids {
		s.Kids[i] = copied(s.Kids[i])
	}
	return s
}

// sized is a schedule with so many of each: what is too much is cut off, what is wanting is such as may be there.
func sized(s api.Sched, nums, ints, kids int) api.Sched {
	s = copied(s)
	for len(s.Nums) < nums {
		s.Nums = append(s.Nums, one)
	}
	for len(s.Ints) < ints {
		s.Ints = append(s.Ints, len(s.Ints)+10)
	}
	for len(s.Kids) < kids {
		s.Kids = append(s.Kids, constantOf(one))
	}
	return api.Sched{Op: s.Op, Nums: s.Nums[:nums], Ints: s.Ints[:ints], Kids: s.Kids[:kids]}
}

// TestCounts: SC1, each row with up to two more or less of Nums, of Ints and of Kids, and of several at once.
func TestCounts(t *testing.T) {
	for _, s := range rowsOf() {
		for nums := max(len(s.Nums)-2, 0); nums <= len(s.Nums)+2; nums++ {
			for ints := max(len(s.Ints)-2, 0); ints <= len(s.Ints)+2; ints++ {
				for kids := max(len(s.Kids)-2, 0); kids <= len(s.Kids)+2; kids++ {
					good := nums == len(s.Nums) && ints == len(s.Ints) && kids == len(s.Kids)
					switch s.Op {
					case 5:
						good = ints > 0 && nums == ints+1 && kids == 0
					case 6:
						good = ints > 0 && nums == 0 && kids == ints+1
					}
					if good {
						holdGood(t, sized(s, nums, ints, kids))
					} else {
						holdBad(t, sized(s, nums, ints, kids))
					}
				}
			}
		}
	}
}

// TestEmptyLists: SC1, nil and the empty list are the same.
func TestEmptyLists(t *testing.T) {
	for _, s := range rowsOf() {
		s = copied(s)
		s.Nums, s.Ints, s.Kids = append([]api.F{}, s.Nums...), append([]int{}, s.Ints...), append([]api.Sched{}, s.Kids...)
		holdGood(t, s)
		s.Nums, s.Ints, s.Kids = append(s.Nums, inf)[:len(s.Nums)], append(s.Ints, -1)[:len(s.Ints)], append(s.Kids, api.Sched{})[:len(s.Kids)]
		holdGood(t, s)
	}
	holdBad(t, api.Sched{})
	holdBad(t, api.Sched{Nums: []api.F{}, Ints: []int{}, Kids: []api.Sched{}})
}

// TestOps: SC1, an Op that is none, with what each row has.
func TestOps(t *testing.T) {
	for _, op := range []int{0, -1, -2, 14, 15, 99, 256 + 1, 1<<32 + 1, 1<<32 + 5, minInt, minInt + 1, maxInt} {
		holdBad(t, api.Sched{Op: op})
		for _, s := range rowsOf() {
			s.Op = op
			holdBad(t, s)
		}
	}
	for _, s := range rowsOf() { // a row with what another one has
		for op := 1; op <= 13; op++ {
			if s.Op != op && len(s.Kids) == 0 && !(s.Op == 4 && op == 5 || s.Op == 5 && op == 4 && len(s.Ints) == 1) {
				other := s
				other.Op = op
				holdBad(t, other)
			}
		}
	}
}

// TestFinite: SC1, each of Nums may be any number that is finite, but for the rate; nothing else.
func TestFinite(t *testing.T) {
	bad := append(samples.NaNs(), inf, inf|minus, nan)
	for _, s := range rowsOf() {
		for place := range s.Nums {
			for _, a := range bad {
				s := copied(s)
				s.Nums[place] = a
				holdBad(t, s)
			}
			for _, a := range samples.Edges() {
				s := copied(s)
				s.Nums[place] = a
				switch {
				case a&inf == inf:
					holdBad(t, s)
				case s.Op != 3 || place != 1:
					holdGood(t, s)
				}
			}
		}
	}
}

// TestRates: SC1, a rate is above 0.
func TestRates(t *testing.T) {
	for _, rate := range []api.F{0x00000001, 0x00000002, 0x007fffff, 0x00800000, half, 0x3f7fffff, one, 0x3f800001, 0x40000000, 0x7f7ffffe, most} {
		holdGood(t, exponentialOf(one, rate, 4, 1))
		holdBad(t, exponentialOf(one, rate|minus, 4, 1))
	}
	for _, rate := range []api.F{zero, minus, inf, inf | minus, nan} {
		holdBad(t, exponentialOf(one, rate, 4, 1))
	}
}

// TestWholes: SC1, each whole number at its ends, just within and just without.
func TestWholes(t *testing.T) {
	for _, c := range []struct{ op, place, low, high int }{
		{2, 0, 1, maxPower}, {2, 1, 1, maxCount}, {2, 2, 0, maxCount},
		{3, 0, 1, maxCount}, {3, 1, 0, maxCount},
		{4, 0, 1, maxCount},
		{7, 0, 1, maxCount},
		{12, 0, 0, maxCount},
		{13, 0, 0, maxCount},
	} {
		for _, s := range rowsOf() {
			if s.Op != c.op {
				continue
			}
			for _, n := range []int{c.low, c.low + 1, c.low + 2, (c.low + c.high) / 2, c.high - 1, c.high} {
				s := copied(s)
				s.Ints[c.place] = n
				holdGood(t, s)
			}
			for _, n := range []int{c.low - 1, c.low - 2, c.high + 1, c.high + 2, -c.high, 1 << 31, 1 << 32, 1<<32 + 1, minInt, minInt + 1, maxInt} {
				s := copied(s)
				s.Ints[c.place] = n
				holdBad(t, s)
			}
		}
	}
}

// TestBoundaries: SC1, those of piecewise schedules and of joins, that rise, stand still and fall.
func TestBoundaries(t *testing.T) {
	make2 := func(boundaries []int) (api.Sched, api.Sched) {
		k := len(boundaries)
		return sized(piecesOf(boundaries), k+1, k, 0), sized(joinOf(boundaries), 0, k, k+1)
	}
	for _, boundaries := range [][]int{
		{1}, {2}, {maxCount - 1}, {maxCount}, {1, 2}, {1, 3}, {1, maxCount}, {maxCount - 1, maxCount}, {1, 2, 3}, {5, 50, 500}, {maxCount - 2, maxCount - 1, maxCount},
	} {
		pieces, joined := make2(boundaries)
		holdGood(t, pieces)
		holdGood(t, joined)
	}
	for _, boundaries := range [][]int{
		{}, {0}, {-1}, {maxCount + 1}, {1 << 32}, {1<<32 + 1}, {minInt}, {maxInt},
		{0, 1}, {-1, 1}, {minInt, 1}, {1, 1}, {2, 2}, {2, 1}, {1, 0}, {1, -1}, {1, minInt}, {1, maxCount + 1}, {1, maxInt}, {maxCount, maxCount}, {maxCount, maxCount + 1}, {maxCount, 1},
		{0, 1, 2}, {1, 1, 2}, {1, 2, 2}, {2, 1, 3}, {1, 3, 2}, {3, 2, 1}, {1, 2, 1}, {1, 2, 0}, {1, 2, maxCount + 1}, {5, 5, 5},
	} {
		pieces, joined := make2(boundaries)
		holdBad(t, pieces)
		holdBad(t, joined)
	}
}

// TestKidsAtFault: SC1, one of Kids that may not be, at each place of each row.
func TestKidsAtFault(t *testing.T) {
	faults := []api.Sched{
		{}, {Op: 14, Nums: []api.F{one}}, constantOf(inf), constantOf(nan), exponentialOf(one, zero, 1, 0), holdOf(constantOf(one), -1),
		twoOf(opPlus, constantOf(one), api.Sched{}), twoOf(opPlus, api.Sched{}, constantOf(one)), joinOf([]int{1}, constantOf(one)), polynomialOf(one, one, 0, 1, 0),
	}
	for _, s := range rowsOf() {
		for place := range s.Kids {
			for _, fault := range faults {
				s := copied(s)
				s.Kids[place] = fault
				holdBad(t, s)
			}
		}
	}
}
