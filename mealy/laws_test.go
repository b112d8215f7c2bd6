package mealy

import (
	"testing"

	"lathe/api"
	"lathe/samples"
)

// canonical is a list with the one NaN in the place of all.
func canonical(vectors [][]api.F) [][]api.F {
	out := make([][]api.F, len(vectors))
	for i, v := range vectors {
		for _, a := range v {
			if samples.IsNaN(a) {
				a = nan
			}
			out[i] = append(out[i], a)
		}
	}
	return out
}

// spoiled has some of its numbers NaNs, of any kind.
func spoiled(r *grower, vectors [][]api.F) [][]api.F {
	for _, v := range vectors {
		for i := range v {
			if r.Below(3) == 0 {
				v[i] = samples.NaNs()[r.Below(len(samples.NaNs()))]
			}
		}
	}
	return vectors
}

// TestNaNsAreOne: ME4 and rule 5, which NaN comes in makes no difference, in gradients and in parameters, and none but the one is told.
func TestNaNsAreOne(t *testing.T) {
	r := growerOf(51)
	for i := range 4000 {
		list := r.Params(4)
		s := samples.Rows()[i%len(samples.Rows())]
		x := r.valid(1+r.Below(4), list)
		if s.Kids == 0 && !s.Star {
			x = r.Transform(s, 1, len(list))
		}
		a, b := machine(t, x, list), machine(t, x, list)
		for range 4 {
			grads, params := spoiled(r, r.Moody(list, 4)), spoiled(r, r.Moody(list, 4))
			u, v := stepped(t, a, grads, params), stepped(t, b, canonical(grads), canonical(params))
			if !same(u, v) || !same(u, canonical(u)) {
				t.Errorf("%s of %08x, %08x: %08x, want %08x", brief(x), grads, params, u, v)
			}
		}
	}
}

// TestStepsBefore: ME4, a step's updates hang on the steps up to it alone: not on the steps behind it, nor on other machines.
func TestStepsBefore(t *testing.T) {
	r := growerOf(52)
	for range 800 {
		list := append(r.Params(4), api.Param{Name: "x", Kind: 1, Len: 2})
		x := r.valid(1+r.Below(4), list)
		var grads, params, want [][][]api.F
		m := machine(t, x, list)
		for range 6 {
			mood := r.Below(5)
			grads, params = append(grads, r.Moody(list, mood)), append(params, r.Moody(list, mood))
			want = append(want, stepped(t, m, grads[len(want)], params[len(want)]))
		}
		again, other := machine(t, x, list), machine(t, x, list)
		for i := range want {
			stepped(t, other, r.Moody(list, 4), r.Moody(list, 4))
			if got := stepped(t, again, grads[i], params[i]); !same(got, want[i]) {
				t.Errorf("%s: step %d: %08x, want %08x", brief(x), i, got, want[i])
			}
		}
	}
}

// TestOneStepRounds: ME4, TxMultiSteps 1 asks its kid at each step: with +0 and each gradient added, that is as TxEvery 1 and the kid.
func TestOneStepRounds(t *testing.T) {
	r := growerOf(53)
	for range 500 {
		list := append(r.Params(4), api.Param{Name: "x", Kind: 1, Len: 2})
		kid := r.valid(1+r.Below(4), list)
		often := api.Tx{Op: 26, Ints: []int{1}, Kids: []api.Tx{kid}}
		holdTwin(t, r, brief(kid), often, chained(api.Tx{Op: 30, Ints: []int{1}}, kid), list)
	}
	holdTwins(t, mixed(), []twin{{"multi_steps(1, trace(0.9))", "chain(apply_every(1), trace(0.9))"}, {"multi_steps(1, " + line + ")", "chain(apply_every(1), " + line + ")"}})
}

// TestGroupsAreOne: ME4, in programs from all over a chain of one kid is the kid, and chains in chains are one chain.
func TestGroupsAreOne(t *testing.T) {
	r := growerOf(54)
	for range 500 {
		list := append(r.Params(4), api.Param{Name: "x", Kind: 2, Len: 2})
		a, b, c := r.valid(1+r.Below(3), list), r.valid(1+r.Below(3), list), r.valid(1+r.Below(3), list)
		holdTwin(t, r, brief(a), chained(a), a, list)
		holdTwin(t, r, brief(a), chained(a, chained(b, c)), chained(a, b, c), list)
		holdTwin(t, r, brief(a), chained(chained(a, b), chained(c)), chained(a, b, c), list)
	}
}

// TestPartsAsReals: P14, what goes part by part is the same within a split and without.
func TestPartsAsReals(t *testing.T) {
	for _, kid := range []string{
		"identity()", "set_to_zero()", "scale(0.3)", "scale_by_schedule(linear(1, 0.25, 9))", "trace(0.9)", "trace(0.9, true)", "ema(0.9)", "ema(0.9, false)",
		"add_decayed_weights(0.1)", "centralize()", "zero_nans()", "scale_by_optimistic_gradient(0.7, 0.4)", "multi_steps(3, trace(0.9))", "apply_every(3)",
		"apply_if_finite(trace(0.9), 1)",
	} {
		holdTwins(t, mixed(), []twin{{"split_real_and_imaginary(" + kid + ")", kid}})
	}
	grads := [][]api.F{{three, four}}
	list := []api.Param{{Name: "z", Kind: 2, Len: 1}}
	holdEdges(t, list, []edge{ // and what goes by the square of the whole is not
		{"clip_by_block_norm(1.0)", grads, grads, [][]api.F{{0x3f19999a, 0x3f4ccccd}}},
		{"split_real_and_imaginary(clip_by_block_norm(1.0))", grads, grads, [][]api.F{{one, one}}},
		{"scale_by_rss(0.0, 0.0)", grads, grads, [][]api.F{{0x3f19999a, 0x3f4ccccd}}},
		{"split_real_and_imaginary(scale_by_rss(0.0, 0.0))", grads, grads, [][]api.F{{one, one}}},
		{"scale_by_adamax(0.0, 0.0, 0.0)", grads, grads, [][]api.F{{0x3f19999a, 0x3f4ccccd}}},
		{"split_real_and_imaginary(scale_by_adamax(0.0, 0.0, 0.0))", grads, grads, [][]api.F{{one, one}}},
	})
}

// TestOneGoesWithAll: ME3, a piece of one element goes as any other: the same numbers as among several, where each goes by itself.
func TestOneGoesWithAll(t *testing.T) {
	r := growerOf(55)
	several := []api.Param{{Name: "w", Kind: 1, Len: 3}, {Name: "z", Kind: 2, Len: 3}}
	single := []api.Param{{Name: "w", Kind: 1, Len: 1}, {Name: "z", Kind: 2, Len: 1}}
	for _, op := range []int{1, 2, 7, 8, 9, 10, 11, 12, 13, 14, 18, 20, 31, 32, 33, 39} {
		s := samples.RowOf(op)
		for range 50 {
			x := r.Transform(s, 1, 2)
			all := machine(t, x, several)
			ones := []*Machine{machine(t, x, single), machine(t, x, single), machine(t, x, single)}
			for range 5 {
				mood := r.Below(5)
				grads, params := r.Moody(several, mood), r.Moody(several, mood)
				u := stepped(t, all, grads, params)
				for i, m := range ones {
					cut := func(v [][]api.F) [][]api.F { return [][]api.F{v[0][i : i+1], v[1][2*i : 2*i+2]} }
					if got := stepped(t, m, cut(grads), cut(params)); !same(got, cut(u)) {
						t.Errorf("%s: %08x, want %08x", brief(x), got, cut(u))
					}
				}
			}
		}
	}
}
