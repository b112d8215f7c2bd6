package lower

import (
	"slices"
	"strconv"
	"testing"

	"lathe/api"
	"lathe/ir"
	"lathe/samples"
)

// greatest are as many parameters as there may be.
func greatest(kind int) []api.Param {
	var list []api.Param
	for i := range 64 {
		list = append(list, api.Param{Name: "p" + strconv.Itoa(i), Kind: kind, Len: 1})
	}
	return list
}

// heaviest are programs of each transform, so many behind one another.
func heaviest(g *grower, row samples.Row, count, params int) api.Tx {
	x := api.Tx{Op: 23}
	for range count {
		x.Kids = append(x.Kids, g.Transform(row, 2, params))
	}
	return x
}

// TestWeightOf256: LO2, programs whose weight is not above 256, though near it, have a code: of each transform, over few parameters and
// many.
func TestWeightOf256(t *testing.T) {
	g := growerOf(256)
	near := 0
	for _, row := range samples.Rows() {
		for _, list := range [][]api.Param{nil, real1(), complex1(), mixed(), greatest(1)[:40], greatest(2)[:40], greatest(1), greatest(2)} {
			for count := 1; count <= 130; count += 1 + count/3 {
				x, ok := made(heaviest(g, row, count, len(list)), list)
				if !ok || wantWeight(x, list) > 256 {
					continue
				}
				holdForm(t, x, list)
				if wantWeight(x, list) > 190 {
					near++
				}
			}
		}
	}
	if near < 60 {
		t.Errorf("%d were near", near)
	}
}

// TestWeightOf256InWords: LO2, one behind the other until the weight is 256 to the number.
func TestWeightOf256InWords(t *testing.T) {
	for _, c := range []struct {
		list        []api.Param
		kid         api.Tx
		kids, extra int
	}{
		{real1(), api.Tx{Op: 14, Nums: []api.F{half, half, 0, 0}}, 127, 0},
		{real1(), api.Tx{Op: 13, Nums: []api.F{half, half, 0, 0}}, 127, 0},
		{real1(), api.Tx{Op: 26, Ints: []int{2}, Kids: []api.Tx{{Op: 30, Ints: []int{2}}}}, 63, 2},
		{nil, api.Tx{Op: 42, Ints: []int{2}, Kids: []api.Tx{{Op: 34, Nums: []api.F{0, 0, 0, 0, 0}}, {Op: 9, Nums: []api.F{0, 0, 0, 0}}}}, 85, 0},
		{nil, api.Tx{Op: 3, Sched: api.Sched{Op: 4, Nums: []api.F{one, half}, Ints: []int{9}}}, 85, 0},
		{nil, api.Tx{Op: 3, Sched: api.Sched{Op: 8, Kids: []api.Sched{{Op: 1, Nums: []api.F{one}}, {Op: 1, Nums: []api.F{one}}}}}, 63, 3},
	} {
		x := api.Tx{Op: 23, Kids: slices.Repeat([]api.Tx{c.kid}, c.kids)}
		weight := wantWeight(x, c.list)
		if weight != 256-c.extra {
			t.Errorf("%s weighs %d", brief(c.kid), weight)
		}
		holdWeight(t, x, c.list, weight)
		holdForm(t, x, c.list)
		holdSteps(t, growerOf(7), x, c.list, 0, 3)
	}
}

// TestHeavier: LO2, programs as great as may be have a code, for which all holds, or one of the two errors, and then their weight is above
// 256.
func TestHeavier(t *testing.T) {
	g := growerOf(181)
	errors := map[api.Errno]int{}
	for _, row := range samples.Rows() {
		for _, list := range [][]api.Param{nil, real1(), mixed(), greatest(2)} {
			for _, count := range []int{70, 500} {
				x, ok := made(heaviest(g, row, count, len(list)), list)
				if !ok {
					continue
				}
				_, e := Lower(x, list)
				errors[e]++
				if e == api.OK {
					holdForm(t, x, list)
					continue
				}
				if w, _ := Weight(x, list); w <= 256 || e != errSlots && e != errSize {
					t.Errorf("Lower(%s) = %d, its weight %d", brief(x), e, w)
				}
				holdTooGreat(t, x, list, e)
			}
		}
	}
	if errors[errSize]+errors[errSlots] < 50 || errors[api.OK] < 100 {
		t.Error(errors)
	}
}

// holdTooGreat: rule 2, beside the error is no code; and it is the same error when it is asked again.
func holdTooGreat(t *testing.T, x api.Tx, list []api.Param, want api.Errno) {
	t.Helper()
	if c, e := Lower(x, list); e != want || !ir.Equal(c, api.Code{}) {
		t.Errorf("Lower(%s) = %s, %d, want %d", brief(x), samples.Show(c), e, want)
	}
}

// TestTheGreatest: LO2 and rule 1, it ends at programs as great as may be, over as many numbers as may be.
func TestTheGreatest(t *testing.T) {
	amsgrad := api.Tx{Op: 14, Nums: []api.F{half, half, 0, 0}}
	until := api.Tx{Op: 42, Ints: []int{9}, Kids: []api.Tx{amsgrad, amsgrad}}
	leaf := api.Sched{Op: 4, Nums: []api.F{one, half}, Ints: []int{9}}
	sum := api.Sched{Op: 8, Kids: []api.Sched{leaf, leaf}}
	for range 10 {
		sum = api.Sched{Op: 8, Kids: []api.Sched{sum, sum}}
	}
	for _, list := range [][]api.Param{nil, real1(), greatest(2), wide(16, 1), wide(8, 2)} {
		for _, x := range []api.Tx{
			{Op: 23, Kids: slices.Repeat([]api.Tx{amsgrad}, maxNodes-1)},
			{Op: 23, Kids: slices.Repeat([]api.Tx{until}, maxNodes/3)},
			{Op: 3, Sched: sum},
			{Op: 28, Kids: []api.Tx{{Op: 23, Kids: slices.Repeat([]api.Tx{{Op: 1}}, maxNodes-2)}}},
		} {
			holdWeight(t, x, list, wantWeight(x, list))
			c, e := Lower(x, list)
			if e == api.OK {
				holdLimits(t, c, wantWeight(x, list))
			} else if e != errSize && e != errSlots {
				t.Errorf("Lower(%s) = %d", brief(x), e)
			}
		}
	}
}

// nest is a program as deep as may be, of transforms that ask their kids in blocks.
func nest(kind int, leaf api.Tx, depth int) api.Tx {
	for range depth - 1 {
		switch kind {
		case 26:
			leaf = api.Tx{Op: 26, Ints: []int{1}, Kids: []api.Tx{leaf}}
		case 27:
			leaf = api.Tx{Op: 27, Ints: []int{1}, Kids: []api.Tx{leaf}}
		case 41:
			leaf = api.Tx{Op: 41, Nums: []api.F{four}, Kids: []api.Tx{leaf}}
		case 42:
			leaf = api.Tx{Op: 42, Ints: []int{3}, Kids: []api.Tx{leaf, {Op: 7, Nums: []api.F{half}, Ints: []int{0}}}}
		default:
			leaf = api.Tx{Op: kind, Kids: []api.Tx{leaf}}
		}
	}
	return leaf
}

// TestDeepest: LO2 and LO3, blocks in one another as deep as programs may be.
func TestDeepest(t *testing.T) {
	g := growerOf(64)
	for _, kind := range []int{23, 26, 27, 28, 41, 42} {
		for _, leaf := range []api.Tx{{Op: 7, Nums: []api.F{half}, Ints: []int{1}}, {Op: 30, Ints: []int{2}}, {Op: 8, Nums: []api.F{half}, Ints: []int{1}}} {
			x := nest(kind, leaf, maxDepth)
			holdForm(t, x, real1())
			holdForm(t, x, nil)
			for range 4 {
				holdSteps(t, g, x, real1(), 0, 5)
			}
			holdRefused(t, chained(x), real1(), errDeep)
		}
	}
	s := api.Sched{Op: 2, Nums: []api.F{two, one}, Ints: []int{1, 4, 0}}
	for i := range maxDepth - 1 {
		s = []api.Sched{{Op: 13, Ints: []int{3}, Kids: []api.Sched{s}}, {Op: 12, Ints: []int{i % 2}, Kids: []api.Sched{s}}, {Op: 8, Kids: []api.Sched{s, {Op: 1, Nums: []api.F{half}}}}}[i%3]
	}
	x := api.Tx{Op: 3, Sched: s}
	holdForm(t, x, real1())
	holdSteps(t, g, x, real1(), 0, 30)
	holdRefused(t, chained(x), real1(), errDeep)
}
