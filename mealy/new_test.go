package mealy

import (
	"testing"

	"lathe/api"
	"lathe/check"
	"lathe/samples"
)

// holdNew: New answers the error, and then no machine; the same as check.Valid.
func holdNew(t *testing.T, x api.Tx, list []api.Param, want api.Errno) {
	t.Helper()
	m, e := New(x, list)
	if e != want || (m == nil) != (want != api.OK) {
		t.Errorf("New(%s) = %v, %d, want %d", brief(x), m != nil, e, want)
	}
	if told := check.Valid(x, list); told != want {
		t.Errorf("Valid(%s) = %d, want %d", brief(x), told, want)
	}
	if e == api.OK && m.Count() != 0 {
		t.Errorf("New(%s) has the count %d", brief(x), m.Count())
	}
}

// chained is a chain.
func chained(kids ...api.Tx) api.Tx { return api.Tx{Op: 23, Kids: kids} }

// TestNewTakes: ME1, a machine that has done no step, of each row.
func TestNewTakes(t *testing.T) {
	r := growerOf(21)
	for _, s := range samples.Rows() {
		for range 20 {
			holdNew(t, r.Transform(s, 1, 0), nil, check.Valid(r.Transform(s, 1, 0), nil))
			if s.Star {
				holdNew(t, r.Transform(s, 1, 4), mixed(), errComplex)
			}
			if s.Kids == 0 {
				holdNew(t, r.Transform(s, 1, 4), realsOf(mixed()), api.OK)
				holdNew(t, api.Tx{Op: 28, Kids: []api.Tx{r.Transform(s, 1, 4)}}, mixed(), api.OK)
			}
		}
	}
}

// TestNewRefuses: ME1, each error of check.Valid, and nil beside it.
func TestNewRefuses(t *testing.T) {
	one, none, sign := api.Tx{Op: 1}, api.Tx{}, api.Tx{Op: 16}
	for _, x := range []api.Tx{
		none, {Op: 43}, {Op: -1}, {Op: 2}, {Op: 2, Nums: []api.F{inf}}, {Op: 2, Nums: []api.F{nan}}, {Op: 2, Nums: []api.F{0, 0}}, {Op: 1, Ints: []int{1}},
		{Op: 5, Nums: []api.F{0}}, {Op: 7, Nums: []api.F{0x3f800001}, Ints: []int{0}}, {Op: 7, Nums: []api.F{half}, Ints: []int{2}}, {Op: 7, Nums: []api.F{half}},
		{Op: 8, Nums: []api.F{0x3f800000}, Ints: []int{1}}, {Op: 9, Nums: []api.F{0, 0, 0}}, {Op: 3}, {Op: 3, Sched: api.Sched{Op: 1}}, {Op: 1, Sched: api.Sched{Op: 1, Nums: []api.F{0}}},
		{Op: 23}, {Op: 24, Kids: []api.Tx{one}}, {Op: 24, Masks: [][]int{{4}}, Kids: []api.Tx{one}}, {Op: 24, Masks: [][]int{{1, 0}}, Kids: []api.Tx{one}},
		{Op: 24, Masks: [][]int{{0}}}, {Op: 24, Masks: [][]int{{0}}, Kids: []api.Tx{one, one}}, {Op: 25, Masks: [][]int{{0}}, Kids: []api.Tx{one}}, {Op: 25, Kids: []api.Tx{one}},
		{Op: 26, Ints: []int{0}, Kids: []api.Tx{one}}, {Op: 26, Ints: []int{1}}, {Op: 26, Kids: []api.Tx{one}}, {Op: 26, Ints: []int{maxCount + 1}, Kids: []api.Tx{one}},
		{Op: 27, Ints: []int{-1}, Kids: []api.Tx{one}}, {Op: 28}, {Op: 30, Ints: []int{0}}, {Op: 41, Nums: []api.F{0}, Kids: []api.Tx{one}}, {Op: 42, Ints: []int{1}, Kids: []api.Tx{one}},
		chained(one, none), chained(chained(one, chained(none))), chained(none, sign),
	} {
		holdNew(t, x, mixed(), errArg)
		holdNew(t, x, nil, errArg)
	}
	for _, x := range []api.Tx{sign, {Op: 4, Nums: []api.F{0}}, {Op: 15, Nums: []api.F{0, 0}}, {Op: 21}, {Op: 40, Nums: []api.F{0, 0}}, chained(one, sign), chained(sign, none)} {
		holdNew(t, x, mixed(), errComplex)
		holdNew(t, x, mixed()[1:2], errComplex)
	}
	holdNew(t, one, make([]api.Param, 65), errLong)
	holdNew(t, none, []api.Param{{Name: "w", Kind: 3, Len: 1}}, errParam)
	holdNew(t, one, []api.Param{{Name: "", Kind: 1, Len: 1}}, errParam)
	holdNew(t, one, []api.Param{{Name: "w", Kind: 1, Len: 0}}, errParam)
	holdNew(t, one, append(real1(), real1()...), errTwice)
	holdNew(t, one, wide(17), errTotal)
}

// wide are so many real parameters of the greatest length.
func wide(count int) []api.Param {
	var list []api.Param
	for i := range count {
		list = append(list, api.Param{Name: string(rune('a' + i)), Kind: 1, Len: 4096})
	}
	return list
}

// TestNewAtTheLimits: ME1, programs as deep and as great as may be, and one beyond that; a schedule as deep as may be.
func TestNewAtTheLimits(t *testing.T) {
	deep := api.Tx{Op: 2, Nums: []api.F{two}}
	for depth := 1; depth < maxDepth; depth++ {
		deep = api.Tx{Op: []int{23, 26, 27, 28}[depth%4], Kids: []api.Tx{deep}}
		if deep.Op == 26 || deep.Op == 27 {
			deep.Ints = []int{1}
		}
	}
	holdNew(t, deep, mixed(), api.OK)
	holdNew(t, chained(deep), mixed(), errDeep)
	holdSteps(t, growerOf(5), deep, mixed(), 4)

	wideOne := chained()
	for range maxNodes - 1 {
		wideOne.Kids = append(wideOne.Kids, api.Tx{Op: 7, Nums: []api.F{half}, Ints: []int{0}})
	}
	holdNew(t, wideOne, real1(), api.OK)
	holdSteps(t, growerOf(6), wideOne, real1(), 3)
	wideOne.Kids = append(wideOne.Kids, api.Tx{Op: 1})
	holdNew(t, wideOne, real1(), errMany)

	s := api.Sched{Op: 1, Nums: []api.F{two}}
	for range maxDepth - 1 {
		s = api.Sched{Op: 13, Ints: []int{5}, Kids: []api.Sched{s}}
	}
	x := api.Tx{Op: 3, Sched: s}
	holdNew(t, x, real1(), api.OK)
	holdNew(t, chained(x), real1(), errDeep)
	if u := stepped(t, machine(t, x, real1()), [][]api.F{{three}}, [][]api.F{{zero}}); u[0][0] != 0x40c00000 {
		t.Errorf("%08x", u)
	}
}

// TestWideSignature: ME2, as many numbers as a signature may have.
func TestWideSignature(t *testing.T) {
	list := wide(16)
	r := growerOf(9)
	grads, params := r.Moody(list, 0), r.Moody(list, 0)
	for _, text := range []string{"chain(clip_by_global_norm(1.0), scale_by_adam())", "chain(centralize(), normalize_by_update_norm())"} {
		x := typed(t, text, list)
		m, w := machine(t, x, list), wordsOf(x, list)
		holdStep(t, m, w, grads, params)
		holdStep(t, m, w, params, grads)
	}
}

// TestNewIsFirst: ME1 and rule 4, machines made of the same program go the same way, whatever another one did.
func TestNewIsFirst(t *testing.T) {
	r := growerOf(10)
	for _, text := range keepers() {
		x := typed(t, text, mixed())
		holdSteps(t, r, x, mixed(), 5)
		holdSteps(t, r, x, mixed(), 5)
	}
}
