package mealy

import (
	"math"
	"testing"

	"lathe/api"
	"lathe/samples"
)

// TestCount: ME1 and ME2, 0 at first, one more with each step, on and on at MaxCount (P9).
func TestCount(t *testing.T) {
	for _, text := range append(keepers(), "identity()", "scale(2)") {
		m := machine(t, typed(t, text, mixed()), mixed())
		r := growerOf(1)
		if m.Count() != 0 {
			t.Errorf("%s begins at %d", text, m.Count())
		}
		for i := range 5 {
			stepped(t, m, r.Moody(mixed(), 0), r.Moody(mixed(), 0))
			if m.Count() != i+1 {
				t.Errorf("%s: %d, want %d", text, m.Count(), i+1)
			}
		}
		m.Jump(maxCount - 1)
		for range 3 {
			stepped(t, m, r.Moody(mixed(), 0), r.Moody(mixed(), 0))
			if m.Count() != maxCount {
				t.Errorf("%s: %d", text, m.Count())
			}
		}
	}
}

// TestJumpRange: ME2, ErrArg below 0 and above MaxCount, and then no count is another; OK from 0 to MaxCount.
func TestJumpRange(t *testing.T) {
	x := typed(t, "chain(scale_by_schedule(linear(1, 0.25, 9)), ema(0.9), until(3, scale(2), scale(3)))", real1())
	m, w := machine(t, x, real1()), wordsOf(x, real1())
	grads, params := [][]api.F{{three}}, [][]api.F{{one}}
	for range 5 {
		for _, bad := range []int{-1, -2, math.MinInt, maxCount + 1, 1 << 32, math.MaxInt, math.MinInt32} {
			holdJump(t, m, bad)
		}
		holdStep(t, m, w, grads, params)
	}
	for _, count := range []int{0, 1, 7, maxCount - 1, maxCount, 2, 0} {
		if e := m.Jump(count); e != api.OK || m.Count() != count {
			t.Errorf("Jump(%d) = %d, the count %d", count, e, m.Count())
		}
		w.jump(count)
		holdStep(t, m, w, grads, params)
		holdStep(t, m, w, grads, params)
	}
}

// line is a schedule whose value at the step n is n, as far as 64.
const line = "scale_by_schedule(linear(0, 64, 64))"

// jumped are the answers to gradients 1 when the machine jumps to a count ahead of the step behind some.
func jumped(t *testing.T, text string, steps, to, more int) []api.F {
	t.Helper()
	x := typed(t, text, real1())
	m, w := machine(t, x, real1()), wordsOf(x, real1())
	var out []api.F
	for i := range steps + more {
		if i == steps {
			m.Jump(to)
			w.jump(to)
		}
		c := m.Clone()
		holdStep(t, m, w, [][]api.F{{one}}, [][]api.F{{one}})
		out = append(out, stepped(t, c, [][]api.F{{one}}, [][]api.F{{one}})[0][0])
	}
	return out
}

// TestJumpSets: ME2, the count of each transform is set, also of kids, however deep, of such as are not asked, and of such as have no
// parameters.
func TestJumpSets(t *testing.T) {
	for _, c := range []struct {
		text      string
		steps, to int
		want      []api.F
	}{
		{line, 0, 3, []api.F{three, four, 0x40a00000}},
		{line, 2, 3, []api.F{0, one, three, four}},
		{line, 4, 0, []api.F{0, one, two, three, 0, one}},
		{"chain(" + line + ")", 0, 3, []api.F{three, four}},
		{"chain(" + line + ", chain(" + line + "))", 0, 3, []api.F{0x41100000, 0x41800000}},
		{"masked(\"w\", " + line + ")", 1, 3, []api.F{0, three, four}},
		{"partition(none(), identity(), " + line + ")", 1, 3, []api.F{0, three, four}},
		{"split_real_and_imaginary(" + line + ")", 1, 3, []api.F{0, three, four}},
		{"apply_if_finite(" + line + ", 3)", 1, 3, []api.F{0, three, four}},
		{"skip_large(" + line + ", 3.0)", 1, 3, []api.F{0, three, four}},
		{"until(3, " + line + ", scale(-1))", 0, 2, []api.F{two, 0xbf800000, 0xbf800000}},
		{"until(3, " + line + ", scale(-1))", 4, 1, []api.F{0, one, two, 0xbf800000, one, two, 0xbf800000}},
		{"until(3, scale(-1), " + line + ")", 0, 3, []api.F{three, four}},
		{"until(3, scale(-1), " + line + ")", 1, 2, []api.F{0xbf800000, 0xbf800000, two, three}},
		{"multi_steps(2, " + line + ")", 1, 3, []api.F{0, three, 0, four}},
		{"multi_steps(2, " + line + ")", 2, 3, []api.F{0, 0, 0, three, 0, four}},
	} {
		got := jumped(t, c.text, c.steps, c.to, len(c.want)-c.steps)
		if !same([][]api.F{got}, [][]api.F{c.want}) {
			t.Errorf("%s behind %d steps and a jump to %d: %08x, want %08x", c.text, c.steps, c.to, got, c.want)
		}
	}
}

// TestJumpLeaves: ME2, neither the n of a round nor the e of TxIfFinite, nor what is kept beside counts, is another.
func TestJumpLeaves(t *testing.T) {
	for _, to := range []int{0, 1, 2, 3, maxCount} {
		for steps := range 5 {
			for _, c := range []struct {
				text string
				want []api.F
			}{
				{"apply_every(3)", []api.F{0, 0, three, 0, 0, three, 0}},
				{"multi_steps(3, scale(2))", []api.F{0, 0, two, 0, 0, two, 0}},
				{"trace(1.0)", []api.F{one, two, three, four, 0x40a00000, 0x40c00000, 0x40e00000}},
			} {
				if got := jumped(t, c.text, steps, to, 7-steps); !same([][]api.F{got}, [][]api.F{c.want}) {
					t.Errorf("%s behind %d steps and a jump to %d: %08x, want %08x", c.text, steps, to, got, c.want)
				}
			}
			m := machine(t, typed(t, "apply_if_finite(identity(), 2)", real1()), real1())
			for i, want := range []api.F{0, 0, nan, nan, nan, nan} {
				if i == steps {
					m.Jump(to)
				}
				if got := stepped(t, m, [][]api.F{{nan}}, [][]api.F{{one}}); got[0][0] != want {
					t.Errorf("apply_if_finite: step %d with a jump to %d ahead of step %d: %08x, want %08x", i, to, steps, got, want)
				}
			}
		}
	}
}

// TestPowersOfCounts: ME3, the powers are those of the count behind the step, about MaxCount too, where it stays.
func TestPowersOfCounts(t *testing.T) {
	for _, c := range []struct {
		to   int
		want api.F // 0.5 / (1 - 0.5^c), c one further
	}{
		{0, one}, {1, 0x3f2aaaab}, {2, 0x3f124925}, {3, 0x3f088889}, {maxCount - 1, half}, {maxCount, half},
	} {
		m := machine(t, typed(t, "ema(0.5)", real1()), real1())
		m.Jump(c.to)
		if got := stepped(t, m, [][]api.F{{one}}, [][]api.F{{zero}}); got[0][0] != c.want {
			t.Errorf("behind a jump to %d: %08x, want %08x", c.to, got, c.want)
		}
	}
	r := growerOf(11)
	for _, op := range []int{8, 9, 12, 13, 14, 32} {
		for range 50 {
			x := r.Transform(samples.RowOf(op), 1, 0)
			m, w := machine(t, x, mixed()), wordsOf(x, mixed())
			for _, to := range []int{maxCount - 2, 1 << 20, maxCount - 1, maxCount, 0, 1000, 3} {
				m.Jump(to)
				w.jump(to)
				for range 4 {
					holdStep(t, m, w, r.Moody(mixed(), 1), r.Moody(mixed(), 1))
				}
			}
		}
	}
}

// TestNovogradBegins: ME3, the total is taken as it is where the count is 0, and only there: behind a jump to 0 again, behind a jump
// ahead of all steps not.
func TestNovogradBegins(t *testing.T) {
	x := typed(t, "scale_by_novograd(0.0, 0.5, 0.0)", real1()) // u = g / sqrt(s)
	grads := func(a api.F) [][]api.F { return [][]api.F{{a}} }
	m := machine(t, x, real1())
	step := func(a, want api.F) {
		t.Helper()
		if got := stepped(t, m, grads(a), grads(zero)); got[0][0] != want {
			t.Errorf("%08x, want %08x", got[0][0], want)
		}
	}
	step(two, one)         // s 4
	step(zero, zero)       // s 2
	step(two, 0x3f93cd3a)  // s 3
	m.Jump(0)              //
	step(four, one)        // s 16
	m.Jump(1)              //
	step(zero, zero)       // s 8
	m.Jump(maxCount)       //
	step(zero, zero)       // s 4
	step(four, 0x3fa1e89b) // s 10
	m = machine(t, x, real1())
	m.Jump(1)
	step(four, 0x3fb504f3) // s 8
}
