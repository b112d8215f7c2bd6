package lower

import (
	"testing"

	"lathe/api"
	"lathe/interp"
	"lathe/mealy"
)

// note notes the transforms and schedules of a program.
func note(ops, scheds map[int]int, x api.Tx) {
	walk(x, func(x api.Tx) {
		ops[x.Op]++
		noteSchedule(scheds, x.Sched)
	})
}

func noteSchedule(scheds map[int]int, s api.Sched) {
	scheds[s.Op]++
	for _, kid := range s.Kids {
		noteSchedule(scheds, kid)
	}
}

// TestPrograms: LO1 to LO5, programs from all over, over signatures from all over.
func TestPrograms(t *testing.T) {
	g := growerOf(2)
	count := 12000
	if testing.Short() {
		count = 2500
	}
	ops, scheds := map[int]int{}, map[int]int{}
	updates := 0
	for i := range count {
		list := g.Params(5)
		x := g.valid(1+i%6, list)
		note(ops, scheds, x)
		holdForm(t, x, list)
		holdSteps(t, g, x, list, startOf(g, x), 1+g.Below(8))
		updates += numbersOf(list)
		if t.Failed() {
			return
		}
	}
	if len(ops) != 42 || len(scheds) != 14 || updates < 2*count {
		t.Error(len(ops), "of 42 transforms,", len(scheds)-1, "of 13 schedules,", updates, "updates")
	}
}

// TestInOneAnother: LO3, each of the transforms with kids within each other one, over several steps, so that blocks stand in blocks and
// what is kept in them is left as it is where they are left out.
func TestInOneAnother(t *testing.T) {
	g := growerOf(4)
	inner := []string{
		"trace(0.5)", "scale_by_schedule(join(linear(1, 0.25, 2), 3, cosine(0.5, 4)))", "scale_by_adam()", "scale_by_novograd()",
	}
	holders := []func(kid string) string{
		func(kid string) string { return "chain(" + kid + ", " + kid + ")" },
		func(kid string) string { return "masked(or(\"w\", \"y\"), " + kid + ")" },
		func(kid string) string { return "partition(\"z\", " + kid + ", real(), scale(2), " + kid + ")" },
		func(kid string) string { return "multi_steps(2, " + kid + ")" },
		func(kid string) string { return "apply_if_finite(" + kid + ", 1)" },
		func(kid string) string { return "skip_large(" + kid + ", 4.0)" },
		func(kid string) string { return "until(2, " + kid + ", chain(scale(-1), " + kid + "))" },
		func(kid string) string { return "split_real_and_imaginary(" + kid + ")" },
		func(kid string) string { return "chain(apply_every(2), " + kid + ")" },
	}
	for _, kid := range inner {
		for _, outer := range holders {
			for _, middle := range holders {
				for _, last := range holders[3:7] {
					x := typed(t, outer(middle(last(kid))), mixed())
					holdSteps(t, g, x, mixed(), 0, 9)
				}
			}
		}
	}
}

// TestLeftOut: LO3, a kid that is not asked keeps what it kept, and is told of no step.
func TestLeftOut(t *testing.T) {
	big, small := [][]api.F{{0x41200000}}, [][]api.F{{one}} // 10, 1
	for _, c := range []struct {
		text  string
		grads [][][]api.F
		want  []api.F
	}{
		{"skip_large(trace(1.0), 5.0)", [][][]api.F{small, big, small, big, small}, []api.F{one, zero, two, zero, three}},
		{"skip_large(scale_by_schedule(linear(1, 4, 3)), 5.0)", [][][]api.F{small, big, big, small, small}, []api.F{one, zero, zero, two, three}},
		{"apply_if_finite(trace(1.0), 1)", [][][]api.F{small, {{inf}}, small, {{nan}}, small}, []api.F{one, zero, two, zero, three}},
		{"apply_if_finite(trace(1.0), 1)", [][][]api.F{small, {{inf}}, {{inf}}, small, {{0xff800000}}, small}, []api.F{one, zero, inf, inf, zero, inf}},
		{"apply_if_finite(trace(1.0), 0)", [][][]api.F{small, {{inf}}, small}, []api.F{one, inf, inf}},
		{"multi_steps(3, trace(1.0))", [][][]api.F{small, small, small, small, small, small}, []api.F{zero, zero, one, zero, zero, two}},
		{"multi_steps(2, scale(2))", [][][]api.F{small, {{three}}, {{two}}, {{four}}}, []api.F{zero, four, zero, 0x40c00000}},
		{"apply_every(2)", [][][]api.F{{{one}}, {{two}}, {{minus}}, {{minus}}}, []api.F{zero, three, zero, zero}},
		{"until(2, trace(1.0), scale(-1))", [][][]api.F{small, small, small, small}, []api.F{one, two, 0xbf800000, 0xbf800000}},
		{"until(2, scale(-1), trace(1.0))", [][][]api.F{small, small, small, small}, []api.F{0xbf800000, 0xbf800000, one, two}},
	} {
		x := typed(t, c.text, real1())
		r, m := running(t, coded(t, x, real1())), meaning(t, x, real1())
		for i, grads := range c.grads {
			got, e := r.Step(grads, small)
			want, _ := m.Step(grads, small)
			if e != api.OK || !same(got, [][]api.F{{c.want[i]}}) || !same(want, got) {
				t.Errorf("%s: step %d: %08x, %d, want %08x; the meaning is %08x", c.text, i, got, e, c.want[i], want)
			}
		}
	}
}

// TestWalks: LO3, runs and machines that are cloned on their way go on in the same way.
func TestWalks(t *testing.T) {
	g := growerOf(6)
	type walker struct {
		r *interp.Run
		m *mealy.Machine
	}
	for range 300 {
		list := append(g.Params(3), api.Param{Name: "last", Kind: 1, Len: 2})
		x := g.valid(1+g.Below(5), list)
		walkers := []walker{{running(t, coded(t, x, list)), meaning(t, x, list)}}
		for range 12 {
			at := walkers[g.Below(len(walkers))]
			if g.Below(4) == 0 {
				walkers = append(walkers, walker{at.r.Clone(), at.m.Clone()})
			}
			mood := g.Below(5)
			if !holdStep(t, at.r, at.m, g.vectors(list, mood), g.vectors(list, mood)) {
				t.Fatalf("of %s over %v", brief(x), list)
			}
		}
	}
}
