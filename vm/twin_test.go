package vm

import (
	"slices"
	"testing"

	"lathe/alike"
	"lathe/api"
	"lathe/samples"
	"lathe/verify"
)

// A twin is a machine and, beside it, the interpreter with the code that its bytes are.
type twin struct {
	code api.Code
	m    *Machine
	w    *alike.Watch
	cost int // verify.Cost
}

func twinOf(t *testing.T, c api.Code) *twin {
	t.Helper()
	w, wrong := alike.NewWatch(c)
	if wrong != "" {
		t.Fatal(wrong)
	}
	cost, e := verify.Cost(c)
	if e != api.OK {
		t.Fatalf("Cost = %d: %s", e, samples.Show(c))
	}
	return &twin{c, begin(t, c), w, cost}
}

// clone is a twin that goes on by itself.
func (x *twin) clone() *twin { return &twin{x.code, x.m.Clone(), x.w.Clone(), x.cost} }

// hold: VM2 to VM4, what the machine has spent and keeps is as with the interpreter.
func (x *twin) hold(t *testing.T) {
	t.Helper()
	if got, want := x.m.State(), x.w.State(); !slices.Equal(got, want) {
		t.Fatalf("State = %08x, want %08x: %s", got, want, samples.Show(x.code))
	}
	if got, want := x.m.Spent(), x.w.Spent(); got != want || got > x.cost {
		t.Fatalf("Spent = %d, want %d, Cost is %d: %s", got, want, x.cost, samples.Show(x.code))
	}
}

// step: VM2, a step of both, with the same updates.
func (x *twin) step(t *testing.T, grads, params [][]api.F) [][]api.F {
	t.Helper()
	u := stepped(t, x.m, grads, params)
	want, e := x.w.Step(grads, params)
	if e != api.OK || !same(u, want) {
		t.Fatalf("Step(%08x, %08x) = %08x, want %08x: %s", grads, params, u, want, samples.Show(x.code))
	}
	for _, v := range u {
		if slices.ContainsFunc(v, func(a api.F) bool { return !samples.IsTold(a) }) {
			t.Errorf("%08x has a NaN that is not told: %s", u, samples.Show(x.code))
		}
	}
	x.hold(t)
	return u
}

// any is a step with vectors from all over.
func (x *twin) any(t *testing.T, g *samples.Grower) {
	t.Helper()
	mood := g.Below(samples.Moods + 1)
	if mood == samples.Moods {
		x.step(t, g.Vectors(x.code.Sign), g.Vectors(x.code.Sign))
		return
	}
	x.step(t, g.Moody(x.code.Sign, mood), g.Moody(x.code.Sign, mood))
}

// holdTwin: VM2 to VM4, the code does on the machine what it does on the interpreter, in so many steps.
func holdTwin(t *testing.T, g *samples.Grower, c api.Code, steps int) {
	t.Helper()
	x := twinOf(t, c)
	x.hold(t)
	for range steps {
		x.any(t, g)
	}
}

// behind is the code whose kept slots, numbers and whole numbers all, begin with what a state says.
func behind(c api.Code, state []uint32) api.Code {
	d := samples.CloneCode(c)
	for n := range d.Slots {
		s := &d.Slots[n]
		switch {
		case !s.Keep:
			continue
		case s.Type.Kind == api.TypeWhole:
			s.Int = int(state[0])
		default:
			s.Bits = api.F(state[0])
			if samples.IsNaN(s.Bits) {
				s.Bits = nan
			}
		}
		state = state[1:]
	}
	return d
}

// holdBehind: VM2 and VM3, behind Set of a state a step of the machine is that of the interpreter whose slots began so.
func holdBehind(t *testing.T, c api.Code, m *Machine, state []uint32, grads [][]api.F) {
	t.Helper()
	if e := m.Set(state); e != api.OK {
		t.Fatalf("Set(%08x) = %d", state, e)
	}
	d := behind(c, state)
	w, wrong := alike.NewWatch(d)
	if wrong != "" {
		t.Fatal(wrong)
	}
	if !slices.Equal(m.State(), w.State()) {
		t.Errorf("behind Set(%08x): %08x", state, m.State())
	}
	u := stepped(t, m, grads, grads)
	want, e := w.Step(grads, grads)
	if e != api.OK || !same(u, want) || !slices.Equal(m.State(), w.State()) || m.Spent() != w.Spent() {
		t.Errorf("%08x, State %08x, Spent %d, want %08x, %08x, %d: %s", u, m.State(), m.Spent(), want, w.State(), w.Spent(), samples.Show(d))
	}
}
