package check

import (
	"math"
	"slices"
	"testing"

	"lathe/api"
	"lathe/samples"
)

// patterns are numbers at the ends of all ranges, and what is no finite number.
func patterns() []api.F {
	all := []api.F{0, 0x80000000, 1, 0x80000001, 0x3f000000, 0x3f7fffff, 0x3f800000, 0x3f800001, 0xbf800000, 0x7f7fffff, 0xff7fffff, 0x7f800000, 0xff800000, 0x7fc00000}
	return slices.Concat(all, samples.Edges(), samples.NaNs())
}

// wholes are whole numbers at the ends of all ranges.
func wholes() []int {
	return []int{0, 1, 2, 3, -1, maxPower - 1, maxPower, maxPower + 1, maxCount - 1, maxCount, maxCount + 1, -maxCount, 1 << 32, 1<<32 + 1, math.MaxInt, math.MinInt}
}

// TestValidNumbers: CH3, each number of each row, of all patterns: finite, and in its range.
func TestValidNumbers(t *testing.T) {
	count := map[api.Errno]int{}
	try := func(s spec, kinds string, nums []api.F, x api.Tx) {
		var bounds []slot
		slots, _ := s.slots(len(nums) + len(kinds))
		for _, o := range slots {
			if o.sort == "num" {
				bounds = append(bounds, o)
			}
		}
		for i := range nums {
			before := nums[i]
			for _, p := range patterns() {
				nums[i] = p
				e := errArg
				if v := math.Float32frombits(uint32(p)); v-v == 0 && isIn(bounds[i].bounds, v) {
					e = api.OK
				}
				count[e]++
				holdValid(t, x, reals(), e)
			}
			nums[i] = before
		}
	}
	for _, x := range cases() {
		i := slices.IndexFunc(theTransforms(), func(s spec) bool { return s.op == x.Op })
		others := len(x.Ints) + len(x.Masks) + len(x.Kids)
		try(theTransforms()[i], "123456789"[:others], x.Nums, x)
		if x.Op == 3 {
			i := slices.IndexFunc(theSchedules(), func(s spec) bool { return s.op == x.Sched.Op && s.name != "linear" && s.name != "warmup" })
			try(theSchedules()[i], "123456789"[:len(x.Sched.Ints)+len(x.Sched.Kids)], x.Sched.Nums, x)
		}
	}
	if count[api.OK] < 1500 || count[errArg] < 1500 {
		t.Error(count)
	}
}

func isIn(bounds string, x float32) bool {
	return map[string]bool{"any": true, "from0": x >= 0, "above0": x > 0, "0to1": x >= 0 && x <= 1, "0below1": x >= 0 && x < 1}[bounds]
}

// TestValidWholes: CH3, each whole number of each row: flags, counts, steps, begins, powers.
func TestValidWholes(t *testing.T) {
	for _, c := range []struct {
		program   string
		place     int
		low, high int
	}{
		{"trace(0.5, true)", 0, 0, 1},
		{"ema(0.5)", 0, 0, 1},
		{"multi_steps(3, identity())", 0, 1, maxCount},
		{"apply_every(3)", 0, 1, maxCount},
		{"apply_if_finite(identity(), 3)", 0, 0, maxCount},
		{"until(3, identity(), identity())", 0, 1, maxCount},
		{"scale_by_schedule(linear(1, 2, 3))", 0, 1, maxPower},
		{"scale_by_schedule(linear(1, 2, 3))", 1, 1, maxCount},
		{"scale_by_schedule(linear(1, 2, 3))", 2, 0, maxCount},
		{"scale_by_schedule(polynomial(1, 2, 3, 4, 5))", 0, 1, maxPower},
		{"scale_by_schedule(polynomial(1, 2, 3, 4, 5))", 1, 1, maxCount},
		{"scale_by_schedule(polynomial(1, 2, 3, 4, 5))", 2, 0, maxCount},
		{"scale_by_schedule(exponential(1, 2, 3, 4))", 0, 1, maxCount},
		{"scale_by_schedule(exponential(1, 2, 3, 4))", 1, 0, maxCount},
		{"scale_by_schedule(cosine(1, 2))", 0, 1, maxCount},
		{"scale_by_schedule(inverse(1, 2))", 0, 1, maxCount},
		{"scale_by_schedule(after(1, 2))", 0, 0, maxCount},
		{"scale_by_schedule(hold(1, 2))", 0, 0, maxCount},
		{"scale_by_schedule(piecewise(1, 2, 3))", 0, 1, maxCount},
		{"scale_by_schedule(piecewise(1, 2, 3, 1000, 5, 2000, 7))", 0, 1, 999},
		{"scale_by_schedule(piecewise(1, 2, 3, 1000, 5, 2000, 7))", 1, 3, 1999},
		{"scale_by_schedule(piecewise(1, 2, 3, 1000, 5, 2000, 7))", 2, 1001, maxCount},
		{"scale_by_schedule(join(1, 2, 3))", 0, 1, maxCount},
		{"scale_by_schedule(join(1, 2, 3, 1000, 5, 2000, 7))", 0, 1, 999},
		{"scale_by_schedule(join(1, 2, 3, 1000, 5, 2000, 7))", 1, 3, 1999},
		{"scale_by_schedule(join(1, 2, 3, 1000, 5, 2000, 7))", 2, 1001, maxCount},
		{"scale_by_schedule(warmup(1, 2, 3))", 0, 1, maxCount},
	} {
		x := typedOf(c.program, reals())
		ints := x.Ints
		if x.Op == 3 {
			ints = x.Sched.Ints
		}
		for _, n := range append(wholes(), c.low, c.low-1, c.high, c.high+1) {
			ints[c.place] = n
			e := errArg
			if c.low <= n && n <= c.high {
				e = api.OK
			}
			holdValid(t, x, reals(), e)
			holdValid(t, api.Tx{Op: 28, Kids: []api.Tx{x}}, reals(), e)
		}
	}
}

// TestValidComplex: CH3, ErrComplex, where the parameters are seen as Check sees them, by the masks of the typed program.
func TestValidComplex(t *testing.T) {
	sign, one := api.Tx{Op: 16}, api.Tx{Op: 1}
	masked := func(k api.Tx, m ...int) api.Tx { return api.Tx{Op: 24, Masks: [][]int{m}, Kids: []api.Tx{k}} }
	parted := func(kids []api.Tx, masks ...[]int) api.Tx { return api.Tx{Op: 25, Masks: masks, Kids: kids} }
	for _, c := range []struct {
		x api.Tx
		e api.Errno
	}{
		{sign, errComplex},
		{api.Tx{Op: 4, Nums: []api.F{0}}, errComplex},
		{api.Tx{Op: 15, Nums: []api.F{0, 0}}, errComplex},
		{api.Tx{Op: 21}, errComplex},
		{api.Tx{Op: 40, Nums: []api.F{0, 0}}, errComplex},
		{api.Tx{Op: 28, Kids: []api.Tx{sign}}, api.OK},
		{masked(sign, 0, 2), api.OK},
		{masked(sign, 0, 1), errComplex},
		{masked(sign), api.OK},
		{masked(masked(sign, 2, 3), 0, 1, 2), api.OK},
		{masked(masked(sign, 1, 2), 0, 1, 2), errComplex},
		{masked(parted([]api.Tx{sign, sign}, []int{1}), 0, 2), api.OK},
		{parted([]api.Tx{sign, one}, []int{0}), api.OK},
		{parted([]api.Tx{sign, sign}, []int{0}), errComplex},
		{parted([]api.Tx{one, sign}, []int{1, 3}), api.OK},
		{parted([]api.Tx{one, one, sign}, []int{1}, []int{3}), api.OK},
		{parted([]api.Tx{one, sign, one}, []int{1}, []int{0, 1, 2}), api.OK},
		{parted([]api.Tx{one, sign, one}, []int{1}, []int{0, 1, 3}), errComplex},
		{parted([]api.Tx{one, one, sign, sign}, []int{1}, []int{3}, []int{0, 1, 2, 3}), api.OK},
	} {
		holdValid(t, c.x, mixed(), c.e)
		holdValid(t, c.x, realsOf(mixed()), api.OK)
	}
}

// TestValidOrder: CH3, the first of two faults: each transform ahead of its schedule and its Kids, its own fields ahead of ErrComplex.
func TestValidOrder(t *testing.T) {
	sign, one, none := api.Tx{Op: 16}, api.Tx{Op: 1}, api.Tx{}
	badSched := api.Tx{Op: 3, Sched: api.Sched{Op: 99}}
	chain := func(kids ...api.Tx) api.Tx { return api.Tx{Op: 23, Kids: kids} }
	for _, c := range []struct {
		x api.Tx
		e api.Errno
	}{
		{chain(sign, none), errComplex},
		{chain(none, sign), errArg},
		{chain(badSched, sign), errArg},
		{chain(sign, badSched), errComplex},
		{chain(chain(one, sign), none), errComplex},
		{chain(chain(one, none), sign), errArg},
		{chain(one, chain(one, chain(none)), sign), errArg},
		{api.Tx{Op: 23, Nums: []api.F{0}, Kids: []api.Tx{sign}}, errArg},
		{api.Tx{Op: 16, Nums: []api.F{0}}, errArg},
		{api.Tx{Op: 16, Kids: []api.Tx{none}}, errArg},
		{api.Tx{Op: 16, Sched: api.Sched{Op: 99}}, errArg},
		{api.Tx{Op: 4, Nums: []api.F{0x80000001}}, errArg},
		{api.Tx{Op: 26, Ints: []int{0}, Kids: []api.Tx{sign}}, errArg},
		{api.Tx{Op: 24, Masks: [][]int{{1, 0}}, Kids: []api.Tx{sign}}, errArg},
		{api.Tx{Op: 25, Masks: [][]int{{1, 1}}, Kids: []api.Tx{sign, sign}}, errArg},
		{api.Tx{Op: 25, Masks: [][]int{{1}, {4}}, Kids: []api.Tx{sign, one, one}}, errArg},
		{api.Tx{Op: 25, Masks: [][]int{{1}}, Kids: []api.Tx{sign, none}}, errComplex},
	} {
		holdValid(t, c.x, mixed(), c.e)
	}
}

// TestValidSignatures: CH3, the error of sign.Check ahead of all others.
func TestValidSignatures(t *testing.T) {
	deep := api.Tx{Op: 1}
	for range maxDepth {
		deep = api.Tx{Op: 23, Kids: []api.Tx{deep}}
	}
	for _, x := range []api.Tx{{Op: 1}, {}, {Op: 16}, deep, {Op: 23, Kids: make([]api.Tx, maxNodes)}} {
		holdValid(t, x, make([]api.Param, 65), errLong)
		holdValid(t, x, []api.Param{{Name: "w", Kind: 3, Len: 1}}, errParam)
		holdValid(t, x, []api.Param{{Name: "w", Kind: 2, Len: 1}, {Name: "w", Kind: 2, Len: 1}}, errTwice)
		holdValid(t, x, overfull(), errTotal)
	}
}
