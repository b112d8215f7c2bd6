package mealy

import (
	"slices"
	"testing"

	"lathe/api"
)

// holdInput: a step with these answers ErrInput and no updates, and counts nothing.
func holdInput(t *testing.T, m *Machine, grads, params [][]api.F) {
	t.Helper()
	before := m.Count()
	if u, e := m.Step(grads, params); u != nil || e != errInput || m.Count() != before {
		t.Errorf("Step(%08x, %08x) = %v, %d, the count %d, want %d", grads, params, u, e, m.Count(), before)
	}
}

// holdJump: a jump to that count answers ErrArg and changes no count.
func holdJump(t *testing.T, m *Machine, count int) {
	t.Helper()
	before := m.Count()
	if e := m.Jump(count); e != errArg || m.Count() != before {
		t.Errorf("Jump(%d) = %d, the count %d, want %d", count, e, m.Count(), before)
	}
}

// misfits are vectors that do not fit a signature: too few, too many, one too short, one too long, one empty.
func misfits(r *grower, list []api.Param) [][][]api.F {
	all := [][][]api.F{append(r.Moody(list, 0), nil), append(r.Moody(list, 0), []api.F{one})}
	if len(list) > 0 {
		all = append(all, nil, [][]api.F{}, r.Moody(list, 0)[1:], r.Moody(list, 0)[:len(list)-1], make([][]api.F, len(list)))
	}
	change := func(i int, do func(v []api.F) []api.F) {
		vectors := r.Moody(list, 0)
		vectors[i] = do(vectors[i])
		all = append(all, vectors)
	}
	for i := range list {
		change(i, func(v []api.F) []api.F { return v[1:] })
		change(i, func(v []api.F) []api.F { return append(v, one) })
		change(i, func(v []api.F) []api.F { return append(v, v...) })
		change(i, func(v []api.F) []api.F { return nil })
		if list[i].Kind == 2 {
			change(i, func(v []api.F) []api.F { return v[:len(v)/2] }) // as many numbers as elements
		}
	}
	return all
}

// keepers are a program of each transform that keeps something from step to step.
func keepers() []string {
	return []string{
		"trace(0.9)", "trace(0.9, true)", "ema(0.9)", "ema(0.9, false)", "scale_by_adam()", "scale_by_rms()", "scale_by_rss()", "scale_by_belief()",
		"scale_by_yogi()", "scale_by_amsgrad()", "split_real_and_imaginary(scale_by_lion())", "scale_by_adadelta()", "scale_by_adamax()",
		"scale_by_stddev()", "scale_by_novograd()", "scale_by_optimistic_gradient()", "scale_by_schedule(linear(1, 0.25, 9))",
		"until(4, trace(0.9), ema(0.5))", "multi_steps(3, trace(0.9))", "apply_every(3)", "apply_if_finite(trace(0.9), 1)",
		"skip_large(trace(0.9), 100.0)", "masked(\"w\", trace(0.9))", "partition(\"w\", trace(0.9), ema(0.9))", "chain(trace(0.5), trace(0.9))",
		"split_real_and_imaginary(trace(0.9))",
	}
}

// TestMisfits: ME2, ErrInput of gradients, of parameters, of both, ahead of all steps and between them: nothing is counted, and what is kept
// stays as it was.
func TestMisfits(t *testing.T) {
	r := growerOf(7)
	for _, text := range keepers() {
		x := typed(t, text, mixed())
		m, w := machine(t, x, mixed()), wordsOf(x, mixed())
		for range 5 {
			for _, bad := range misfits(r, mixed()) {
				holdInput(t, m, bad, r.Moody(mixed(), 0))
				holdInput(t, m, r.Moody(mixed(), 0), bad)
				holdInput(t, m, bad, bad)
			}
			holdStep(t, m, w, r.Moody(mixed(), 0), r.Moody(mixed(), 0))
		}
	}
}

// TestNoParameters: ME1 and ME2, over a signature without parameters each step answers no updates, and counts.
func TestNoParameters(t *testing.T) {
	for _, text := range []string{"identity()", "adam(0.1)", "multi_steps(2, clip_by_global_norm(1.0))", "split_real_and_imaginary(centralize())"} {
		m := machine(t, typed(t, text, nil), nil)
		for i := range 5 {
			if u := stepped(t, m, nil, [][]api.F{}); len(u) != 0 || m.Count() != i+1 {
				t.Errorf("%s: %v, %d", text, u, m.Count())
			}
			holdInput(t, m, [][]api.F{{}}, nil)
			holdInput(t, m, nil, [][]api.F{{one}})
		}
	}
}

// TestFormOfAnswers: ME2, the updates fit the signature, whatever the program.
func TestFormOfAnswers(t *testing.T) {
	r := growerOf(8)
	for range 3000 {
		list := r.Params(4)
		m := machine(t, r.valid(1+r.Below(5), list), list)
		for range 3 {
			u := stepped(t, m, r.Moody(list, 4), r.Moody(list, 4))
			if len(u) != len(list) || !slices.EqualFunc(u, list, func(v []api.F, p api.Param) bool { return len(v) == p.Len*p.Kind }) {
				t.Errorf("%v over %v", u, list)
			}
		}
	}
}
