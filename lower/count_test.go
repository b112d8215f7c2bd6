package lower

import (
	"slices"
	"testing"

	"lathe/api"
	"lathe/interp"
	"lathe/samples"
)

// heldWholes are what the kept slots of whole numbers hold, rising.
func heldWholes(t *testing.T, c api.Code, r *interp.Run) []int {
	t.Helper()
	var list []int
	for _, slot := range keptWholes(c) {
		_, whole, e := r.Slot(slot)
		if e != api.OK {
			t.Fatalf("Slot(%d) = %d", slot, e)
		}
		list = append(list, whole)
	}
	slices.Sort(list)
	return list
}

// counting are all transforms that keep a count.
func counting() []string {
	return []string{
		"scale_by_schedule(0.5)", "ema(0.5)", "ema(0.5, false)", "scale_by_adam()", "scale_by_belief()", "scale_by_yogi()", "scale_by_amsgrad()", "scale_by_adamax()",
		"scale_by_novograd()", "until(2, scale(2), scale(3))",
	}
}

// TestCountsStand: LO5, each count stands in a slot of its own: 0 at first, one more with each step, and it stays at MaxCount.
func TestCountsStand(t *testing.T) {
	vectors := growerOf(1).Moody(mixed(), 0)
	for _, text := range counting() {
		for _, around := range [][2]string{{"", ""}, {"chain(", ")"}, {"masked(none(), ", ")"}, {"masked(\"w\", ", ")"}, {"split_real_and_imaginary(", ")"}, {"partition(all(), scale(2), ", ")"}} {
			x := typed(t, around[0]+text+around[1], mixed())
			for _, begin := range someCounts() {
				c := begunAt(coded(t, x, mixed()), begin)
				r := running(t, c)
				for step := range 4 {
					if got := heldWholes(t, c, r); !slices.Equal(got, []int{min(begin+step, maxCount)}) {
						t.Errorf("%s from %d on behind %d steps: %v", around[0]+text, begin, step, got)
					}
					r.Step(vectors, vectors)
				}
			}
		}
	}
}

// TestCountsApart: LO5, counts of several transforms stand apart: only those are counted on whose transform was asked. With them stand the
// number of a round's steps, and of errors.
func TestCountsApart(t *testing.T) {
	small, large := [][]api.F{{one}}, [][]api.F{{inf}}
	for _, c := range []struct {
		text  string
		grads [][][]api.F
		want  [][]int // behind each step, rising
	}{
		{"chain(ema(0.5), scale_by_adam(), scale_by_schedule(1.0))", [][][]api.F{small, large}, [][]int{{1, 1, 1}, {2, 2, 2}}},
		{"until(2, ema(0.5), scale_by_adam())", [][][]api.F{small, small, small, small, small}, [][]int{{0, 1, 1}, {0, 2, 2}, {1, 2, 3}, {2, 2, 4}, {2, 3, 5}}},
		{"skip_large(ema(0.5), 3.0)", [][][]api.F{small, large, small}, [][]int{{1}, {1}, {2}}},
		{"multi_steps(3, ema(0.5))", [][][]api.F{small, small, small, small}, [][]int{{0, 1}, {0, 2}, {0, 1}, {1, 1}}},
		{"apply_every(2)", [][][]api.F{small, small, small}, [][]int{{1}, {0}, {1}}},
		{"apply_if_finite(ema(0.5), 1)", [][][]api.F{small, large, large, large, small}, [][]int{{0, 1}, {1, 1}, {2, 2}, {3, 3}, {0, 4}}},
		{"skip_large(until(1, ema(0.5), skip_large(ema(0.5), 3.0)), 9.0)", [][][]api.F{small, large, small, small}, [][]int{{0, 1, 1}, {0, 1, 1}, {1, 1, 2}, {1, 2, 3}}},
		{"scale(2)", [][][]api.F{small}, [][]int{nil}},
		{"chain(trace(0.5), scale_by_rms(), scale_by_lion(), scale_by_adadelta(), scale_by_stddev(), scale_by_rss(), scale_by_optimistic_gradient())", [][][]api.F{small}, [][]int{nil}},
	} {
		code := holdForm(t, typed(t, c.text, real1()), real1())
		r := running(t, code)
		for i, grads := range c.grads {
			r.Step(grads, small)
			if got := heldWholes(t, code, r); !slices.Equal(got, c.want[i]) {
				t.Errorf("%s behind %d steps: %v, want %v", c.text, i+1, got, c.want[i])
			}
		}
	}
}

// withoutOthers is a program without transforms that keep a whole number that is no count.
func withoutOthers(g *grower, depth int, list []api.Param) api.Tx {
	for {
		x := g.valid(depth, list)
		if _, others := counts(x); !others {
			return x
		}
	}
}

// TestJumps: LO5, with J in the place of Int the code does what the machine does behind Jump(J): programs from all over.
func TestJumps(t *testing.T) {
	g := growerOf(51)
	count := 3000
	if testing.Short() {
		count = 600
	}
	jumped := 0
	for i := range count {
		list := append(g.Params(3), api.Param{Name: "last", Kind: 1, Len: 2})
		x := withoutOthers(g, 1+i%5, list)
		if all, _ := counts(x); all > 0 {
			jumped++
		}
		to := someCounts()[g.Below(len(someCounts()))]
		if g.Below(3) == 0 {
			to = g.Below(40)
		}
		holdSteps(t, g, x, list, to, 4)
	}
	if jumped < count/5 {
		t.Errorf("of %d programs %d have counts", count, jumped)
	}
}

// TestAtTheGreatestCount: LO3, each transform that keeps a count goes on where that has come to MaxCount, in kids too.
func TestAtTheGreatestCount(t *testing.T) {
	g := growerOf(52)
	for _, text := range counting() {
		for _, around := range [][2]string{{"", ""}, {"until(5, ", ", scale(2))"}, {"until(2147483647, ", ", scale(2))"}, {"until(5, scale(2), ", ")"}, {"until(2147483647, scale(2), ", ")"}, {"chain(skip_large(", ", 4.0), trace(0.5))"}} {
			x := typed(t, around[0]+text+around[1], mixed())
			for _, to := range []int{maxCount - 3, maxCount - 2, maxCount - 1, maxCount} {
				holdSteps(t, g, x, mixed(), to, 5)
			}
		}
	}
}

// TestSchedulesAtTheGreatestCount: LO3, each schedule there.
func TestSchedulesAtTheGreatestCount(t *testing.T) {
	g := growerOf(53)
	for op := 1; op <= 13; op++ {
		for range 20 {
			x := api.Tx{Op: 3, Sched: g.ScheduleOf(op, 3)}
			for _, to := range []int{maxCount - 2, maxCount - 1, maxCount} {
				holdSteps(t, g, x, real1(), to, 4)
			}
		}
	}
}

// TestRoundsAsLongAsMayBe: LO3, a round of MaxCount steps does not end by itself; with its last step ahead it does.
func TestRoundsAsLongAsMayBe(t *testing.T) {
	vectors := [][]api.F{{two}}
	for _, text := range []string{"apply_every(2147483647)", "multi_steps(2147483647, scale(1))"} {
		c := coded(t, typed(t, text, real1()), real1())
		for _, begin := range []int{0, 7, maxCount - 1} {
			at := begunAt(c, begin)
			r := running(t, at)
			got, e := r.Step(vectors, vectors)
			wholes, isLast := heldWholes(t, at, r), begin == maxCount-1
			switch {
			case e != api.OK || isLast == samples.IsNought(got[0][0]):
				t.Errorf("%s behind %d steps: %08x, %d", text, begin, got, e)
			case isLast && wholes[0] != 0 || !isLast && wholes[0] != begin+1:
				t.Errorf("%s behind %d steps: %d are done", text, begin, wholes[0])
			}
		}
	}
}
