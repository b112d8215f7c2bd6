package lower

import (
	"slices"
	"testing"

	"lathe/api"
	"lathe/sched"
)

// valueOf is a schedule's value at a step, by the code of what scales by it.
func valueOf(t *testing.T, s api.Sched, step int) api.F {
	t.Helper()
	x := api.Tx{Op: 3, Sched: s}
	got, e := running(t, begunAt(coded(t, x, real1()), step)).Step([][]api.F{{one}}, [][]api.F{{one}})
	if e != api.OK {
		t.Fatalf("Step = %d", e)
	}
	return got[0][0]
}

// holdValues: LO3, a schedule by its code has the value of chapter 14 at each of these steps.
func holdValues(t *testing.T, s api.Sched, steps []int) {
	t.Helper()
	for _, step := range steps {
		want, e := sched.Value(s, step)
		if got := valueOf(t, s, step); e != api.OK || got != want {
			t.Errorf("%x at %d: %08x, want %08x, %d", s, step, got, want, e)
		}
	}
}

// stepsAbout are steps at which something of a schedule may change, and their neighbours.
func stepsAbout(s api.Sched) []int {
	steps := []int{0, 1, 2, 3, 10, 1 << 24, maxCount - 1, maxCount}
	all := wholes(s)
	for i, n := range all {
		steps = append(steps, n-1, n, n+1, n/2, n/2+1)
		for _, m := range all[i+1:] {
			steps = append(steps, n+m-1, n+m, n+m+1)
		}
	}
	steps = slices.DeleteFunc(steps, func(n int) bool { return n < 0 || n > maxCount })
	slices.Sort(steps)
	return slices.Compact(steps)
}

func wholes(s api.Sched) []int {
	all := slices.Clone(s.Ints)
	for _, kid := range s.Kids {
		all = append(all, wholes(kid)...)
	}
	return all[:min(len(all), 6)]
}

// TestEachSchedule: LO3, each schedule of the table at all steps about which it changes, and about MaxCount.
func TestEachSchedule(t *testing.T) {
	g := growerOf(14)
	many := 60
	if testing.Short() {
		many = 12
	}
	for op := 1; op <= 13; op++ {
		for range many {
			s := g.ScheduleOf(op, 1)
			holdValues(t, s, stepsAbout(s))
			holdForm(t, api.Tx{Op: 3, Sched: s}, real1())
			holdForm(t, api.Tx{Op: 3, Sched: s}, nil)
		}
	}
}

// TestSchedulesInOneAnother: LO3, each schedule behind joins and within all others.
func TestSchedulesInOneAnother(t *testing.T) {
	g := growerOf(13)
	many := 40
	if testing.Short() {
		many = 8
	}
	for op := 1; op <= 13; op++ {
		for range many {
			s := g.ScheduleOf(op, 3)
			joined := api.Sched{Op: 6, Ints: []int{2 + g.Below(3), 7 + g.Below(3)}, Kids: []api.Sched{g.Schedule(2), s, g.Schedule(1)}}
			holdValues(t, joined, stepsAbout(joined))
			holdForm(t, api.Tx{Op: 3, Sched: joined}, real1())
		}
	}
}

// TestScheduleByItself: LO3, small schedules go through all their steps one behind the other, as a machine does.
func TestScheduleByItself(t *testing.T) {
	for _, c := range []struct {
		text string
		want []api.F
	}{
		{"linear(1, 0, 4, 2)", []api.F{one, one, one, 0x3f400000, half, 0x3e800000, zero, zero}},
		{"polynomial(1, 0, 2, 2)", []api.F{one, 0x3e800000, zero, zero}},
		{"exponential(1, 2, 0.5, 1)", []api.F{one, one, one, half, half, 0x3e800000}},
		{"cosine(2, 4)", []api.F{two, 0x3fda827a, one, 0x3e95f618, zero, zero}},
		{"cosine(2, 2, 1.0)", []api.F{two, two, two, two}},
		{"piecewise(1, 2, 0.5, 3, 4.0)", []api.F{one, one, half, two, two}},
		{"join(constant(1), 2, linear(1, 0, 2))", []api.F{one, one, one, half, zero, zero}},
		{"join(linear(0, 4, 4), 2, linear(0, 4, 4), 3, constant(-0.0))", []api.F{zero, one, zero, minus, minus}},
		{"warmup(2, 2, constant(3))", []api.F{zero, one, three, three}},
		{"inverse(1, 1)", []api.F{one, one, 0x3f3504f3, 0x3f13cd3a, half}},
		{"inverse(1, 4)", []api.F{one, one, one, one, one, 0x3f64f92e}},
		{"plus(linear(0, 4, 4), 1)", []api.F{one, two, three, four}},
		{"times(linear(0, 4, 4), 0.5)", []api.F{zero, half, one}},
		{"least(linear(0, 4, 4), 2)", []api.F{zero, one, two, two, two}},
		{"most(linear(0, 4, 4), 2)", []api.F{two, two, two, three, four}},
		{"most(-0.0, 0.0)", []api.F{zero, zero}},
		{"least(-0.0, 0.0)", []api.F{minus, minus}},
		{"after(2, linear(1, 4, 3))", []api.F{one, one, one, two, three, four}},
		{"hold(linear(1, 4, 3), 1)", []api.F{one, two, two, two}},
		{"hold(linear(1, 4, 3), 0)", []api.F{one, one, one}},
		{"constant(-0.0)", []api.F{minus, minus}},
	} {
		x := typed(t, "scale_by_schedule("+c.text+")", real1())
		r := running(t, coded(t, x, real1()))
		for step, want := range c.want {
			if got, e := r.Step([][]api.F{{one}}, [][]api.F{{one}}); e != api.OK || got[0][0] != want {
				t.Errorf("%s at %d: %08x, %d, want %08x", c.text, step, got, e, want)
			}
			if told, _ := sched.Value(x.Sched, step); told != want {
				t.Errorf("%s at %d: sched says %08x, want %08x", c.text, step, told, want)
			}
		}
	}
}

// TestWave: LO3, the cosine at each share of some steps, a half among them, where it is +0.
func TestWave(t *testing.T) {
	for _, steps := range []int{1, 2, 3, 4, 7, 100, 1 << 25} {
		s := api.Sched{Op: 4, Nums: []api.F{one, 0xbf800000}, Ints: []int{steps}}
		at := []int{0, steps / 2, steps/2 + 1, steps, steps + 1, steps - 1, steps / 3, steps * 3 / 4}
		for i := range min(steps, 100) {
			at = append(at, i)
		}
		holdValues(t, s, at)
	}
}
