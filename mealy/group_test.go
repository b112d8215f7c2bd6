package mealy

import (
	"fmt"
	"slices"
	"testing"

	"lathe/api"
	"lathe/samples"
)

// twin is two programs that must answer the same, over some signatures.
type twin struct{ a, b string }

// holdTwins: both answer the same at each step, of numbers of all kinds, behind jumps too.
func holdTwins(t *testing.T, list []api.Param, twins []twin) {
	t.Helper()
	r := growerOf(41)
	for _, c := range twins {
		holdTwin(t, r, c.a+" and "+c.b, typed(t, c.a, list), typed(t, c.b, list), list)
	}
}

func holdTwin(t *testing.T, r *grower, what string, x, y api.Tx, list []api.Param) {
	t.Helper()
	a, b := machine(t, x, list), machine(t, y, list)
	for i := range 12 {
		if i == 8 {
			a.Jump(maxCount - 2)
			b.Jump(maxCount - 2)
		}
		mood := r.Below(5)
		grads, params := r.Moody(list, mood), r.Moody(list, mood)
		if u, v := stepped(t, a, grads, params), stepped(t, b, grads, params); !same(u, v) {
			t.Errorf("%s: step %d: %08x and %08x", what, i, u, v)
		}
	}
}

// TestChains: ME3 and ME4, a chain of one kid is the kid, chains in chains are one chain, each kid is given what the one ahead of it
// answered, and all the parameters.
func TestChains(t *testing.T) {
	holdRuns(t, []run{
		{"chain(scale(2))", wholes(1, 2), nil, wholes(2, 4)},
		{"chain(scale(2), add_decayed_weights(3.0))", wholes(1, 2), wholes(10, 20), wholes(32, 64)},
		{"chain(add_decayed_weights(3.0), scale(2))", wholes(1, 2), wholes(10, 20), wholes(62, 124)},
		{"chain(trace(1.0), trace(1.0), scale(2))", times(3, one), nil, wholes(2, 6, 12)},
		{"chain(set_to_zero(), scale(2), add_decayed_weights(1.0))", wholes(1, 2), wholes(10, 20), wholes(10, 20)},
	})
	a, b, c := "scale_by_adam()", "trace(0.9, true)", "add_decayed_weights(0.1)"
	for _, kid := range append(keepers(), "identity()", "clip_by_global_norm(1.0)", "multi_steps(2, scale_by_adam())") {
		holdTwins(t, mixed(), []twin{{"chain(" + kid + ")", kid}, {"chain(chain(" + kid + "))", kid}, {"chain(identity(), " + kid + ")", kid}, {"chain(" + kid + ", identity())", kid}})
	}
	holdTwins(t, mixed(), []twin{
		{fmt.Sprintf("chain(%s, chain(%s, %s))", a, b, c), fmt.Sprintf("chain(%s, %s, %s)", a, b, c)},
		{fmt.Sprintf("chain(chain(%s, %s), %s)", a, b, c), fmt.Sprintf("chain(%s, %s, %s)", a, b, c)},
		{fmt.Sprintf("chain(chain(chain(%s), %s), chain(%s))", a, b, c), fmt.Sprintf("chain(%s, %s, %s)", a, b, c)},
	})
}

// TestManyKids: ME3, a chain of many.
func TestManyKids(t *testing.T) {
	x := chained()
	for range 60 {
		x.Kids = append(x.Kids, api.Tx{Op: 18, Nums: []api.F{one}})
	}
	if got := stepped(t, machine(t, x, real1()), [][]api.F{{two}}, [][]api.F{{three}}); got[0][0] != whole(182) {
		t.Errorf("%08x", got)
	}
}

// masked is a TxMasked, parted a TxPartition.
func masked(kid api.Tx, mask ...int) api.Tx {
	return api.Tx{Op: 24, Masks: [][]int{mask}, Kids: []api.Tx{kid}}
}

func parting(kids []api.Tx, masks ...[]int) api.Tx {
	return api.Tx{Op: 25, Masks: masks, Kids: kids}
}

// scaling is a TxScale by a whole number.
func scaling(n int) api.Tx { return api.Tx{Op: 2, Nums: []api.F{whole(n)}} }

// factors tells by how much each parameter is scaled by a program, over four of one element each, real and complex.
func factors(t *testing.T, x api.Tx) []api.F {
	t.Helper()
	list := []api.Param{{Name: "a", Kind: 1, Len: 1}, {Name: "b", Kind: 2, Len: 1}, {Name: "c", Kind: 1, Len: 1}, {Name: "d", Kind: 2, Len: 1}}
	grads := [][]api.F{{one}, {one, two}, {one}, {one, two}}
	got := stepped(t, machine(t, x, list), grads, grads)
	if want := wordsOf(x, list).step(grads, grads); !same(got, want) {
		t.Errorf("%s: %08x, want %08x", brief(x), got, want)
	}
	var out []api.F
	for i, v := range got {
		if len(v) == 2 && v[1] != pattern(mul(2, number(v[0]))) {
			t.Errorf("%s: %08x", brief(x), got)
		}
		out = append(out, got[i][0])
	}
	return out
}

// TestMasks: ME3, TxMasked and TxPartition with masks of none, some and all parameters, a kid without any, masks that overlap, and
// masks in masks.
func TestMasks(t *testing.T) {
	all := []int{0, 1, 2, 3}
	two, three, five, seven := scaling(2), scaling(3), scaling(5), scaling(7)
	for _, c := range []struct {
		x    api.Tx
		want []api.F
	}{
		{masked(two), wholes(1, 1, 1, 1)},
		{masked(two, 0), wholes(2, 1, 1, 1)},
		{masked(two, 1), wholes(1, 2, 1, 1)},
		{masked(two, 3), wholes(1, 1, 1, 2)},
		{masked(two, 0, 3), wholes(2, 1, 1, 2)},
		{masked(two, all...), wholes(2, 2, 2, 2)},
		{masked(masked(two, 1, 2), 0, 1), wholes(1, 2, 1, 1)},
		{masked(masked(two, 2, 3), 0, 1), wholes(1, 1, 1, 1)},
		{chained(masked(two, 0, 1), masked(three, 1, 2)), wholes(2, 6, 3, 1)},
		{parting([]api.Tx{two, three}, nil), wholes(3, 3, 3, 3)},
		{parting([]api.Tx{two, three}, all), wholes(2, 2, 2, 2)},
		{parting([]api.Tx{two, three}, []int{1, 2}), wholes(3, 2, 2, 3)},
		{parting([]api.Tx{two, three, five}, []int{1, 2}, []int{2, 3}), wholes(5, 2, 2, 3)},
		{parting([]api.Tx{two, three, five}, []int{1, 2}, []int{1, 2}), wholes(5, 2, 2, 5)},
		{parting([]api.Tx{two, three, five, seven}, []int{0}, []int{0, 1}, all), wholes(2, 3, 5, 5)},
		{parting([]api.Tx{two, three, five, seven}, nil, []int{2}, nil), wholes(7, 7, 3, 7)},
		{parting([]api.Tx{masked(two, 0, 3), masked(three, 0, 3)}, []int{0, 1}), wholes(2, 1, 1, 3)},
		{masked(parting([]api.Tx{two, three}, []int{0, 1}), 1, 2), wholes(1, 2, 3, 1)},
		{parting([]api.Tx{parting([]api.Tx{two, three}, []int{0}), five}, []int{0, 1}), wholes(2, 3, 5, 5)},
		{api.Tx{Op: 28, Kids: []api.Tx{masked(two, 1, 2)}}, wholes(1, 2, 2, 1)},
		{api.Tx{Op: 28, Kids: []api.Tx{parting([]api.Tx{two, three, five}, []int{3}, []int{0, 3})}}, wholes(3, 5, 5, 2)},
		{masked(api.Tx{Op: 28, Kids: []api.Tx{masked(two, 1, 2)}}, 0, 1), wholes(1, 2, 1, 1)},
	} {
		if got := factors(t, c.x); !slices.Equal(got, c.want) {
			t.Errorf("%s: %08x, want %08x", brief(c.x), got, c.want)
		}
	}
}

// TestMaskedLeavesTheRest: ME4, the updates of what is not in the mask are the gradients, bits.Canon of each, whatever the kid, at each step.
func TestMaskedLeavesTheRest(t *testing.T) {
	r := growerOf(43)
	for range 1500 {
		list := append(r.Params(4), api.Param{Name: "x", Kind: 1, Len: 2}, api.Param{Name: "y", Kind: 2, Len: 2})
		mask := r.Mask(len(list))
		kid := r.valid(1+r.Below(4), list)
		m := machine(t, masked(kid, mask...), list)
		for range 5 {
			grads, params := r.Moody(list, 4), r.Moody(list, 4)
			u := stepped(t, m, grads, params)
			for i := range list {
				for j := range u[i] {
					want := grads[i][j]
					if samples.IsNaN(want) {
						want = nan
					}
					if !slices.Contains(mask, i) && u[i][j] != want {
						t.Errorf("masked %v of %s: %08x, want %08x", mask, brief(kid), u[i][j], want)
					}
				}
			}
		}
	}
}

// TestApart: P14, under TxMasked and TxPartition a parameter's updates are those of its own transform alone: of a machine over its own
// parameters.
func TestApart(t *testing.T) {
	r := growerOf(44)
	for range 600 {
		list := append(r.Params(4), api.Param{Name: "x", Kind: 1, Len: 2}, api.Param{Name: "y", Kind: 2, Len: 2})
		mask := r.Mask(len(list))
		var in, out []api.Param
		for i, p := range list {
			if slices.Contains(mask, i) {
				in = append(in, p)
			} else {
				out = append(out, p)
			}
		}
		kids := []api.Tx{unmasked(r, list), unmasked(r, list)}
		m := machine(t, parting(kids, mask), list)
		a, b := machine(t, kids[0], in), machine(t, kids[1], out)
		for range 5 {
			grads, params := r.Moody(list, 3), r.Moody(list, 3)
			u := stepped(t, m, grads, params)
			inside := func(i int) bool { return slices.Contains(mask, i) }
			outside := func(i int) bool { return !inside(i) }
			if v := stepped(t, a, some(grads, inside), some(params, inside)); !same(v, some(u, inside)) {
				t.Errorf("%s: %08x, want %08x", brief(kids[0]), some(u, inside), v)
			}
			if v := stepped(t, b, some(grads, outside), some(params, outside)); !same(v, some(u, outside)) {
				t.Errorf("%s: %08x, want %08x", brief(kids[1]), some(u, outside), v)
			}
		}
	}
}

// unmasked is a program without masks, so that it may be over other signatures too.
func unmasked(r *grower, list []api.Param) api.Tx {
	for {
		x := r.valid(1+r.Below(4), list)
		ops := map[int]bool{}
		if note(ops, x); !ops[24] && !ops[25] {
			return x
		}
	}
}

func some(vectors [][]api.F, holds func(i int) bool) [][]api.F {
	out := [][]api.F{}
	for i, v := range vectors {
		if holds(i) {
			out = append(out, v)
		}
	}
	return out
}

// TestSplit: ME3 and P14, within a split a complex parameter's parts go as two real parameters, the real parts first, and masks mean both.
func TestSplit(t *testing.T) {
	r := growerOf(45)
	asReal := []api.Param{{Name: "w", Kind: 1, Len: 3}, {Name: "z.re", Kind: 1, Len: 2}, {Name: "z.im", Kind: 1, Len: 2}, {Name: "a", Kind: 1, Len: 1}, {Name: "y.re", Kind: 1, Len: 1}, {Name: "y.im", Kind: 1, Len: 1}}
	apart := func(v [][]api.F) [][]api.F {
		return [][]api.F{v[0], {v[1][0], v[1][2]}, {v[1][1], v[1][3]}, v[2], v[3][:1], v[3][1:]}
	}
	for range 1500 {
		x := r.AnyTransform(1+r.Below(4), len(mixed()))
		m := machine(t, api.Tx{Op: 28, Kids: []api.Tx{x}}, mixed())
		n := machine(t, widened(x), asReal)
		for range 6 {
			mood := r.Below(5)
			grads, params := r.Moody(mixed(), mood), r.Moody(mixed(), mood)
			u, v := stepped(t, m, grads, params), stepped(t, n, apart(grads), apart(params))
			if !same(apart(u), v) {
				t.Errorf("%s: %08x, want %08x", brief(x), apart(u), v)
			}
		}
	}
}

// widened has masks of the parts in the place of those of w, z, a and y.
func widened(x api.Tx) api.Tx {
	var masks [][]int
	for _, mask := range x.Masks {
		var wide []int
		for _, i := range mask {
			wide = append(wide, [][]int{{0}, {1, 2}, {3}, {4, 5}}[i]...)
		}
		masks = append(masks, wide)
	}
	x.Masks = masks
	x.Kids = slices.Clone(x.Kids)
	for i := range x.Kids {
		x.Kids[i] = widened(x.Kids[i])
	}
	return x
}

// TestSplitOfReals: ME3, over real parameters a split is its kid; so is a split in a split.
func TestSplitOfReals(t *testing.T) {
	for _, kid := range append(keepers(), "scale_by_sign()", "centralize()", "clip_by_block_norm(1.0)") {
		holdTwins(t, realsOf(mixed()), []twin{{"split_real_and_imaginary(" + kid + ")", kid}})
		holdTwins(t, mixed(), []twin{{"split_real_and_imaginary(split_real_and_imaginary(" + kid + "))", "split_real_and_imaginary(" + kid + ")"}})
		holdTwins(t, mixed(), []twin{{"split_real_and_imaginary(chain(" + kid + ", scale(3)))", "chain(split_real_and_imaginary(" + kid + "), scale(3))"}})
	}
}

// TestComplexInTurns: ME2, a complex parameter's parts come and go in turns.
func TestComplexInTurns(t *testing.T) {
	list := []api.Param{{Name: "z", Kind: 2, Len: 3}}
	grads := [][]api.F{wholes(1, 2, 3, 4, 5, 6)}
	holdEdges(t, list, []edge{
		{"identity()", grads, grads, grads},
		{"scale(2)", grads, grads, [][]api.F{wholes(2, 4, 6, 8, 10, 12)}},
		{"split_real_and_imaginary(scale(2))", grads, grads, [][]api.F{wholes(2, 4, 6, 8, 10, 12)}},
		{"split_real_and_imaginary(centralize())", grads, grads, [][]api.F{wholes(-2, -2, 0, 0, 2, 2)}},
		{"centralize()", grads, grads, [][]api.F{wholes(-2, -2, 0, 0, 2, 2)}},
		{"add_decayed_weights(1.0)", grads, [][]api.F{wholes(10, 20, 30, 40, 50, 60)}, [][]api.F{wholes(11, 22, 33, 44, 55, 66)}},
	})
}
