package lower

import (
	"math"
	"slices"
	"testing"

	"lathe/api"
	"lathe/check"
	"lathe/samples"
)

// holdRefused: LO1 and LO2, both calls answer that error, and nothing beside it.
func holdRefused(t *testing.T, x api.Tx, list []api.Param, want api.Errno) {
	t.Helper()
	if e := check.Valid(x, list); e != want {
		t.Errorf("check.Valid(%s) = %d, want %d", brief(x), e, want)
	}
	if w, e := Weight(x, list); w != 0 || e != want {
		t.Errorf("Weight(%s) = %d, %d, want %d", brief(x), w, e, want)
	}
	if c, e := Lower(x, list); c.Sign != nil || c.Regs != nil || c.Slots != nil || c.List != nil || e != want {
		t.Errorf("Lower(%s) = %s, %d, want %d", brief(x), samples.Show(c), e, want)
	}
}

// chained is a chain of transforms.
func chained(kids ...api.Tx) api.Tx { return api.Tx{Op: 23, Kids: kids} }

// TestRefused: LO1 and LO2, each error of check.Valid.
func TestRefused(t *testing.T) {
	one, none, sign := api.Tx{Op: 1}, api.Tx{}, api.Tx{Op: 16}
	for _, x := range []api.Tx{
		none, {Op: 43}, {Op: -1}, {Op: math.MinInt}, {Op: 2}, {Op: 2, Nums: []api.F{inf}}, {Op: 2, Nums: []api.F{nan}}, {Op: 2, Nums: []api.F{0, 0}}, {Op: 1, Ints: []int{1}},
		{Op: 5, Nums: []api.F{0}}, {Op: 7, Nums: []api.F{half}, Ints: []int{2}}, {Op: 7, Nums: []api.F{half}}, {Op: 8, Nums: []api.F{0x3f800000}, Ints: []int{1}},
		{Op: 9, Nums: []api.F{0, 0, 0}}, {Op: 3}, {Op: 3, Sched: api.Sched{Op: 1}}, {Op: 1, Sched: api.Sched{Op: 1, Nums: []api.F{0}}},
		{Op: 3, Sched: api.Sched{Op: 6, Ints: []int{2, 1}, Kids: make([]api.Sched, 3)}}, {Op: 23}, {Op: 24, Kids: []api.Tx{one}},
		{Op: 24, Masks: [][]int{{4}}, Kids: []api.Tx{one}}, {Op: 24, Masks: [][]int{{-1}}, Kids: []api.Tx{one}}, {Op: 24, Masks: [][]int{{1, 0}}, Kids: []api.Tx{one}},
		{Op: 24, Masks: [][]int{{0}}}, {Op: 25, Masks: [][]int{{0}}, Kids: []api.Tx{one}}, {Op: 25, Kids: []api.Tx{one}}, {Op: 26, Ints: []int{0}, Kids: []api.Tx{one}},
		{Op: 26, Kids: []api.Tx{one}}, {Op: 26, Ints: []int{maxCount + 1}, Kids: []api.Tx{one}}, {Op: 27, Ints: []int{-1}, Kids: []api.Tx{one}}, {Op: 28}, {Op: 30, Ints: []int{0}},
		{Op: 41, Nums: []api.F{0}, Kids: []api.Tx{one}}, {Op: 42, Ints: []int{1}, Kids: []api.Tx{one}}, chained(one, none), chained(chained(one, chained(none))), chained(none, sign),
	} {
		holdRefused(t, x, mixed(), errArg)
		holdRefused(t, x, nil, errArg)
	}
	for _, x := range []api.Tx{sign, {Op: 4, Nums: []api.F{0}}, {Op: 15, Nums: []api.F{0, 0}}, {Op: 21}, {Op: 40, Nums: []api.F{0, 0}}, chained(one, sign), chained(sign, none)} {
		holdRefused(t, x, mixed(), errComplex)
		holdRefused(t, x, complex1(), errComplex)
	}
}

// TestSignaturesRefused: LO1 and LO2, a signature that may not be is told ahead of all that is wrong with the program.
func TestSignaturesRefused(t *testing.T) {
	deep := api.Tx{Op: 1}
	for range maxDepth {
		deep = chained(deep)
	}
	many := api.Tx{Op: 23, Kids: make([]api.Tx, maxNodes)}
	for _, x := range []api.Tx{{Op: 1}, {}, {Op: 16}, deep, many} {
		holdRefused(t, x, make([]api.Param, 65), errLong)
		holdRefused(t, x, []api.Param{{Name: "w", Kind: 3, Len: 1}}, errParam)
		holdRefused(t, x, []api.Param{{Name: "", Kind: 1, Len: 1}}, errParam)
		holdRefused(t, x, []api.Param{{Name: "w", Kind: 1, Len: 0}}, errParam)
		holdRefused(t, x, []api.Param{{Name: "w", Kind: 1, Len: 4097}}, errParam)
		holdRefused(t, x, append(complex1(), complex1()...), errTwice)
		holdRefused(t, x, wide(17, 1), errTotal)
	}
	holdRefused(t, deep, mixed(), errDeep)
	holdRefused(t, many, mixed(), errMany)
	many.Kids = append(many.Kids, deep)
	holdRefused(t, many, mixed(), errDeep)
}

// wide are so many parameters of the greatest length.
func wide(count, kind int) []api.Param {
	var list []api.Param
	for i := range count {
		list = append(list, api.Param{Name: string([]byte{'a' + byte(i/26), 'a' + byte(i%26)}), Kind: kind, Len: 4096})
	}
	return list
}

// spoilt is a program with one thing of it changed: mostly so that it may not be.
func spoilt(g *grower, x api.Tx) api.Tx {
	if len(x.Kids) > 0 && g.Below(3) > 0 {
		x.Kids = slices.Clone(x.Kids)
		i := g.Below(len(x.Kids))
		x.Kids[i] = spoilt(g, x.Kids[i])
		return x
	}
	switch g.Below(8) {
	case 0:
		x.Op = g.Below(45) - 1
	case 1:
		x.Nums = append(slices.Clone(x.Nums), half)
	case 2:
		x.Ints = append(slices.Clone(x.Ints), 1)
	case 3:
		x.Masks = append(slices.Clone(x.Masks), []int{g.Below(3)})
	case 4:
		x.Kids = append(slices.Clone(x.Kids), api.Tx{Op: g.Below(44)})
	case 5:
		x.Nums = slices.Repeat([]api.F{g.Pattern()}, len(x.Nums))
	case 6:
		x.Ints = slices.Repeat([]int{g.UpTo(maxCount) * 2}, len(x.Ints))
	default:
		x.Sched = api.Sched{Op: g.Below(15), Nums: slices.Repeat([]api.F{g.Pattern()}, g.Below(3))}
	}
	return x
}

// TestSpoilt: LO1 and LO2, programs of which one thing is changed have check.Valid's answer.
func TestSpoilt(t *testing.T) {
	g := growerOf(99)
	refused, taken := map[api.Errno]int{}, 0
	for i := range 6000 {
		list := g.Params(4)
		x := spoilt(g, g.AnyTransform(1+i%4, len(list)))
		e := check.Valid(x, list)
		if e != api.OK {
			refused[e]++
			holdRefused(t, x, list, e)
			continue
		}
		taken++
		holdForm(t, x, list)
		holdWeight(t, x, list, wantWeight(x, list))
	}
	if refused[errArg] < 2000 || refused[errComplex] < 50 || taken < 300 {
		t.Errorf("refused %v, taken %d", refused, taken)
	}
}
