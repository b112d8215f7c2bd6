package lower

import (
	"slices"
	"testing"

	"lathe/api"
	"lathe/check"
	"lathe/samples"
)

// The chapter's words once more: a set of active parameters goes down the tree.

// wantWeight is the weight of a program over a signature.
func wantWeight(x api.Tx, list []api.Param) int {
	active := map[int]bool{}
	for i := range list {
		active[i] = true
	}
	return weightWith(x, list, active)
}

func weightWith(x api.Tx, list []api.Param, active map[int]bool) int {
	total := 1 + weightOfSchedule(x.Sched)
	for i := range active {
		total += list[i].Kind // a real one has one part, a complex one two, split or not
	}
	left := map[int]bool{}
	for i := range active {
		left[i] = true
	}
	for k, kid := range x.Kids {
		own := map[int]bool{}
		for i := range left {
			isOther := (x.Op == 24 || x.Op == 25) && k < len(x.Masks) && !slices.Contains(x.Masks[k], i)
			own[i] = !isOther
		}
		for i, is := range own {
			if !is {
				delete(own, i)
			} else if x.Op == 25 {
				delete(left, i)
			}
		}
		total += weightWith(kid, list, own)
	}
	return total
}

func weightOfSchedule(s api.Sched) int {
	if s.Op == 0 {
		return 0
	}
	total := 1 + len(s.Ints)
	for _, kid := range s.Kids {
		total += weightOfSchedule(kid)
	}
	return total
}

// holdWeight: LO1, the weight of a program that may be.
func holdWeight(t *testing.T, x api.Tx, list []api.Param, want int) {
	t.Helper()
	if got, e := Weight(x, list); got != want || e != api.OK {
		t.Errorf("Weight(%s over %v) = %d, %d, want %d", brief(x), list, got, e, want)
	}
}

// made is a program as it is, or split, if only that may be; false, if neither may be.
func made(x api.Tx, list []api.Param) (api.Tx, bool) {
	if check.Valid(x, list) == api.OK {
		return x, true
	}
	x = api.Tx{Op: 28, Kids: []api.Tx{x}}
	return x, check.Valid(x, list) == api.OK
}

// TestWeight: LO1, programs by hand, over w real, z complex, a real, y complex.
func TestWeight(t *testing.T) {
	for _, c := range []struct {
		text string
		want int
	}{
		{"identity()", 7},
		{"scale_by_adam()", 7},
		{"chain(identity())", 14},
		{"chain(identity(), scale(2), trace(0.5))", 28},
		{"masked(\"w\", trace(0.5))", 7 + 2},
		{"masked(\"z\", trace(0.5))", 7 + 3},
		{"masked(none(), trace(0.5))", 7 + 1},
		{"masked(none(), chain(trace(0.5), multi_steps(2, ema(0.5))))", 7 + 4},
		{"masked(real(), masked(\"w\", trace(0.5)))", 7 + 3 + 2},
		{"masked(\"w\", masked(\"z\", trace(0.5)))", 7 + 2 + 1},
		{"partition(\"w\", trace(0.5), scale(2))", 7 + 2 + 6},
		{"partition(\"w\", trace(0.5), real(), scale(2), ema(0.5))", 7 + 2 + 2 + 5},
		{"partition(all(), trace(0.5), scale(2))", 7 + 7 + 1},
		{"split_real_and_imaginary(clip(1.0))", 14},
		{"split_real_and_imaginary(masked(complex(), clip(1.0)))", 7 + 7 + 5},
		{"multi_steps(3, scale(2))", 14},
		{"apply_every(3)", 7},
		{"apply_if_finite(scale(2), 3)", 14},
		{"skip_large(scale(2), 3.0)", 14},
		{"until(9, scale(2), chain(scale(2)))", 28},
		{"scale_by_schedule(1.0)", 8},
		{"scale_by_schedule(linear(1, 0, 5))", 7 + 4},
		{"scale_by_schedule(polynomial(1, 0, 2, 5, 7))", 7 + 4},
		{"scale_by_schedule(exponential(1, 5, 0.5, 7))", 7 + 3},
		{"scale_by_schedule(cosine(1, 5))", 7 + 2},
		{"scale_by_schedule(inverse(1, 5))", 7 + 2},
		{"scale_by_schedule(piecewise(1, 5, 0.5, 6, 0.5, 7, 0.5))", 7 + 4},
		{"scale_by_schedule(plus(constant(1), cosine(1, 5)))", 7 + 1 + 1 + 2},
		{"scale_by_schedule(times(least(1, 2), most(cosine(1, 5), 2)))", 7 + 1 + (1 + 2) + (1 + 3)},
		{"scale_by_schedule(after(5, constant(1)))", 7 + 2 + 1},
		{"scale_by_schedule(hold(constant(1), 5))", 7 + 2 + 1},
		{"scale_by_schedule(join(constant(1), 5, constant(2), 8, cosine(1, 5)))", 7 + 3 + 1 + 1 + 2},
		{"scale_by_schedule(warmup(1, 5, constant(2)))", 7 + 2 + 4 + 1},
		{"masked(\"w\", scale_by_schedule(warmup(1, 5, constant(2))))", 7 + 2 + 7},
		{"masked(none(), scale_by_schedule(hold(constant(1), 5)))", 7 + 1 + 3},
	} {
		x := typed(t, c.text, mixed())
		holdWeight(t, x, mixed(), c.want)
		if words := wantWeight(x, mixed()); words != c.want {
			t.Errorf("%s: the words say %d, want %d", c.text, words, c.want)
		}
	}
}

// TestSecondExample: LO1, the chapter's second example, whatever the lengths are.
func TestSecondExample(t *testing.T) {
	for _, length := range []int{1, 2, 4096} {
		list := []api.Param{{Name: "w", Kind: 1, Len: length}, {Name: "z", Kind: 2, Len: length}}
		x := typed(t, "split_real_and_imaginary(chain(clip(1.0), masked(\"w\", trace(0.9))))", list)
		holdWeight(t, x, list, 18)
	}
}

// TestWeightOfEach: LO1, each transform over each kind of signature: one, and one for each part.
func TestWeightOfEach(t *testing.T) {
	g := growerOf(1)
	for _, row := range samples.Rows() {
		if row.Kids > 0 || row.Op == 3 {
			continue
		}
		x := g.Transform(row, 1, 0)
		holdWeight(t, x, nil, 1)
		holdWeight(t, x, real1(), 2)
		holdWeight(t, x, realsOf(mixed()), 5)
		if !row.Star {
			holdWeight(t, x, complex1(), 3)
			holdWeight(t, x, mixed(), 7)
		}
		holdWeight(t, api.Tx{Op: 28, Kids: []api.Tx{x}}, mixed(), 14)
	}
}

// TestWeightOfEachSchedule: LO1, each schedule, in one another.
func TestWeightOfEachSchedule(t *testing.T) {
	g := growerOf(2)
	for op := 1; op <= 13; op++ {
		for range 50 {
			x := api.Tx{Op: 3, Sched: g.ScheduleOf(op, 4)}
			holdWeight(t, x, nil, 1+weightOfSchedule(x.Sched))
			holdWeight(t, x, mixed(), 7+weightOfSchedule(x.Sched))
		}
	}
}

// TestWeights: LO1, programs from all over, over signatures from all over.
func TestWeights(t *testing.T) {
	g := growerOf(3)
	for i := range 3000 {
		list := g.Params(6)
		x := g.valid(1+i%6, list)
		holdWeight(t, x, list, wantWeight(x, list))
	}
}

// TestWeightOfTheGreatest: LO1, of as many transforms, parameters and schedules as there may be.
func TestWeightOfTheGreatest(t *testing.T) {
	wide := api.Tx{Op: 23, Kids: slices.Repeat([]api.Tx{{Op: 1}}, maxNodes-1)}
	holdWeight(t, wide, nil, maxNodes)
	var list []api.Param
	for i := range 64 {
		list = append(list, api.Param{Name: string([]byte{'a', byte('0' + i/10), byte('0' + i%10)}), Kind: 2, Len: 1})
	}
	holdWeight(t, wide, list, maxNodes*129)
	deep := api.Tx{Op: 1}
	for range maxDepth - 1 {
		deep = api.Tx{Op: 23, Kids: []api.Tx{deep}}
	}
	holdWeight(t, deep, list, 64*129)
}
