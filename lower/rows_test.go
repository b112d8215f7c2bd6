package lower

import (
	"testing"

	"lathe/api"
	"lathe/samples"
)

// someCounts are counts at which a run may begin: the first ones, about powers of two, about MaxCount.
func someCounts() []int {
	return []int{0, 1, 2, 5, 1<<24 - 1, 1 << 24, maxCount - 2, maxCount - 1, maxCount}
}

// startOf is a count at which a program may begin. Where the n of a round or the number of errors is kept it is 0: that is no count that a
// jump sets.
func startOf(g *grower, x api.Tx) int {
	if _, others := counts(x); others {
		return 0
	}
	return someCounts()[g.Below(len(someCounts()))]
}

// TestRows: LO3, each transform by itself (those with kids with one of any sort) over all kinds of signatures, at all kinds of counts,
// with numbers of all kinds.
func TestRows(t *testing.T) {
	g := growerOf(15)
	many := 60
	if testing.Short() {
		many = 15
	}
	for _, row := range samples.Rows() {
		tried := 0
		for range many {
			for _, list := range signatures() {
				x, ok := made(g.Transform(row, 2, len(list)), list)
				if !ok {
					continue
				}
				holdSteps(t, g, x, list, 0, 5)
				holdSteps(t, g, x, list, startOf(g, x), 4)
				tried++
			}
		}
		if tried < 4*many {
			t.Errorf("Op %d was tried %d times", row.Op, tried)
		}
	}
}

// edgeVectors have each pair of some patterns as an element of a gradient and of a parameter.
func edgeVectors(patterns []api.F) ([]api.F, []api.F) {
	var grads, params []api.F
	for _, a := range patterns {
		for _, b := range patterns {
			grads, params = append(grads, a), append(params, b)
		}
	}
	return grads, params
}

// alone are the transforms that work element by element, or nearly so, with some of their numbers.
func alone() []string {
	return []string{
		"identity()", "set_to_zero()", "scale(-0.0)", "scale(3e38)", "scale_by_schedule(-0.0)", "clip(0.0)", "clip(-0.0)", "clip(1.0)", "clip_by_global_norm(1.0)",
		"clip_by_block_rms(1.0)", "trace(0.5)", "trace(1.0, true)", "trace(0.0)", "ema(0.5)", "ema(0.0, false)", "scale_by_adam()", "scale_by_adam(0, 0, 0, 0)",
		"scale_by_rms()", "scale_by_rms(0.5, 0.0, 0.0)", "scale_by_rss()", "scale_by_rss(0.0, 0.0)", "scale_by_belief()", "scale_by_belief(0.5, 0.5, 0.0, 0.0)",
		"scale_by_yogi()", "scale_by_yogi(0.5, 0.5, 0.0, 0.0)", "scale_by_amsgrad()", "scale_by_lion()", "scale_by_sign()", "scale_by_trust_ratio()",
		"scale_by_trust_ratio(0.0, 2.0, 1.0)", "scale_by_trust_ratio(0.5)", "add_decayed_weights(0.5)", "centralize()", "zero_nans()", "keep_params_nonnegative()",
		"scale_by_param_block_rms()", "apply_every(2)", "scale_by_adadelta()", "scale_by_adadelta(0.5, 0.0)", "scale_by_adamax()", "scale_by_adamax(0.5, 0.5, 0.0)",
		"scale_by_stddev()", "scale_by_stddev(0.5, 0.0, 0.0)", "scale_by_novograd()", "scale_by_novograd(0.5, 0.5, 0.0, 0.0, 0.5)", "normalize_by_update_norm()",
		"normalize_by_update_norm(-0.0, 0.0)", "scale_by_param_block_norm()", "clip_by_block_norm(1.0)", "adaptive_grad_clip(0.5)", "adaptive_grad_clip(0.5, 0.0)",
		"scale_by_optimistic_gradient()", "scale_by_optimistic_gradient(3e38, 3e38)", "keep_params_in_box(-1.0, 1.0)", "keep_params_in_box(1.0, -1.0)",
		"keep_params_in_box(-0.0, 0.0)", "multi_steps(2, scale(2))", "apply_if_finite(trace(0.5), 1)", "apply_if_finite(trace(0.5), 0)", "skip_large(trace(0.5), 2.0)",
		"until(1, trace(0.5), scale(-1))",
	}
}

// TestEdges: LO3, each pair of edges as gradient and parameter: as one-element parameters, and beside each other in one vector.
func TestEdges(t *testing.T) {
	patterns := append(samples.Edges(), samples.NaNs()...)
	if testing.Short() {
		patterns = patterns[:20]
	}
	grads, params := edgeVectors(patterns)
	together := []api.Param{{Name: "w", Kind: 1, Len: len(grads)}}
	for _, text := range alone() {
		x := typed(t, text, real1())
		c := coded(t, x, real1())
		for i := range grads {
			r, m := running(t, c), meaning(t, x, real1())
			for _, at := range []int{i, (i * 7) % len(grads), i} {
				if !holdStep(t, r, m, [][]api.F{grads[at : at+1]}, [][]api.F{params[at : at+1]}) {
					t.Fatalf("in %s", text)
				}
			}
		}
		r, m := running(t, coded(t, x, together)), meaning(t, x, together)
		for range 3 {
			if !holdStep(t, r, m, [][]api.F{grads}, [][]api.F{params}) {
				t.Fatalf("in %s of all together", text)
			}
		}
	}
}

// TestEdgesOfComplex: LO3, each pair of edges as the parts of an element.
func TestEdgesOfComplex(t *testing.T) {
	re, im := edgeVectors(samples.Edges())
	params := []api.F{one, 0xc0000000}
	for _, text := range alone() {
		x, ok := made(typed(t, text, real1()), complex1())
		if !ok {
			t.Fatalf("%s can't be over a complex parameter", text)
		}
		c := coded(t, x, complex1())
		for i := range re {
			r, m := running(t, c), meaning(t, x, complex1())
			for range 2 {
				holdStep(t, r, m, [][]api.F{{re[i], im[i]}}, [][]api.F{params})
				if !holdStep(t, r, m, [][]api.F{params}, [][]api.F{{re[i], im[i]}}) {
					t.Fatalf("in %s", text)
				}
			}
		}
	}
}

// TestLongVectors: LO3, sums go strictly by index over vectors as long as they may be, and over pieces in order.
func TestLongVectors(t *testing.T) {
	g := growerOf(77)
	list := []api.Param{{Name: "z", Kind: 2, Len: 4096}, {Name: "w", Kind: 1, Len: 4096}, {Name: "a", Kind: 1, Len: 1}}
	for _, text := range []string{"clip_by_global_norm(1.0)", "clip_by_block_rms(1.0)", "scale_by_trust_ratio()", "centralize()", "scale_by_param_block_rms()", "scale_by_novograd()", "normalize_by_update_norm()", "split_real_and_imaginary(clip_by_global_norm(0.5))"} {
		x := typed(t, text, list)
		r, m := running(t, coded(t, x, list)), meaning(t, x, list)
		for range 2 {
			if !holdStep(t, r, m, g.Moody(list, 2), g.Moody(list, 2)) {
				t.Fatalf("in %s", text)
			}
		}
	}
}

// TestOrderOfPieces: LO3, the totals of pieces are added in the order of the signature, split parts one behind the other.
func TestOrderOfPieces(t *testing.T) {
	list := []api.Param{{Name: "w", Kind: 1, Len: 1}, {Name: "z", Kind: 2, Len: 1}, {Name: "a", Kind: 1, Len: 1}}
	grads := [][]api.F{{0x46000000}, {0x3f800000, 0x3f800000}, {0x3f800000}}
	for _, text := range []string{"normalize_by_update_norm(1.0, 0.0)", "split_real_and_imaginary(normalize_by_update_norm(1.0, 0.0))", "clip_by_global_norm(0.5)", "masked(not(\"w\"), normalize_by_update_norm())"} {
		x := typed(t, text, list)
		for _, turn := range []int{0, 1, 2} {
			turned := [][]api.F{grads[0], grads[1], grads[2]}
			turned[0], turned[2*min(turn, 1)] = turned[2*min(turn, 1)], turned[0]
			holdStep(t, running(t, coded(t, x, list)), meaning(t, x, list), turned, grads)
		}
	}
}
