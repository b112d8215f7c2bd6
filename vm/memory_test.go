package vm

import (
	"slices"
	"strings"
	"sync"
	"testing"
	"unsafe"

	"lathe/api"
	"lathe/samples"
)

// TestVectorsStay: rule 3, what Step is given is neither changed nor kept, its spare room neither.
func TestVectorsStay(t *testing.T) {
	g := &samples.Grower{Source: 21}
	for range 800 {
		x := twinOf(t, g.Code(50))
		for range 3 {
			grads, params := samples.RoomyVectors(g.Vectors(x.code.Sign)), samples.RoomyVectors(g.Vectors(x.code.Sign))
			before := samples.OpenedVectors(grads) + samples.OpenedVectors(params)
			want, _ := x.w.Clone().Step(grads, params)
			u := stepped(t, x.m, grads, params)
			_, _ = x.w.Step(grads, params)
			if samples.OpenedVectors(grads)+samples.OpenedVectors(params) != before {
				t.Errorf("%s changed what it was given", samples.Show(x.code))
			}
			samples.RuinVectors(grads)
			samples.RuinVectors(params)
			if !same(u, want) {
				t.Errorf("%08x, want %08x: %s", u, want, samples.Show(x.code))
			}
			x.hold(t)
		}
	}
}

// TestSameVectorTwice: rule 3, gradients and parameters may be the same memory, and so may two gradients.
func TestSameVectorTwice(t *testing.T) {
	c := api.Code{Sign: []api.Param{{Name: "w", Kind: 1, Len: 2}, {Name: "z", Kind: 2, Len: 1}}, Regs: []api.Type{vectorType(0), vectorType(0), vectorType(1)}}
	c.Slots = []api.Slot{{Type: vectorType(0), Keep: true}}
	c.List = read("Grad D0; Param D1; Add D0 A0 B1; Load D1; Add D0 A0 B1; Store A0; Out A0; Grad D2 N1; Out A2; Param D2; Out A2 N1")
	x := twinOf(t, c)
	v := []api.F{three, half}
	for range 3 {
		x.step(t, [][]api.F{v, v}, [][]api.F{v, v})
		if !slices.Equal(v, []api.F{three, half}) {
			t.Fatalf("%08x", v)
		}
	}
}

// TestAnswersAreTheCallers: rule 3, what Step, State and Signature answered may be written over, spare room too, and so may what Set was
// given: neither the machine nor a clone sees it, nor do other vectors of one answer.
func TestAnswersAreTheCallers(t *testing.T) {
	g := &samples.Grower{Source: 22}
	for range 800 {
		x := twinOf(t, g.Code(50))
		for range 3 {
			other := x.clone()
			grads, params := g.Vectors(x.code.Sign), g.Vectors(x.code.Sign)
			want, _ := x.w.Step(grads, params)
			before := samples.OpenedVectors(grads) + samples.OpenedVectors(params)
			u := stepped(t, x.m, grads, params)
			for p := range u {
				if !slices.Equal(u[p], want[p]) { // the ones ahead of it have been written over
					t.Errorf("%08x, want %08x: %s", u, want, samples.Show(x.code))
				}
				samples.Ruin(u[p], 0xdeadbeef)
			}
			if samples.OpenedVectors(grads)+samples.OpenedVectors(params) != before {
				t.Errorf("the updates share memory with what was given: %s", samples.Show(x.code))
			}
			state := samples.Roomy(x.m.State(), 1, 2)
			if e := x.m.Set(state); e != api.OK {
				t.Errorf("Set = %d", e)
			}
			samples.Ruin(state, 0xdeadbeef)
			for range 2 {
				samples.Ruin(x.m.State(), 0xdeadbeef)
				samples.Ruin(x.m.Signature(), api.Param{Name: "ruin", Kind: 9, Len: -1})
			}
			if !slices.Equal(x.m.Signature(), x.code.Sign) || !slices.Equal(other.m.Signature(), x.code.Sign) {
				t.Errorf("%v, want %v", x.m.Signature(), x.code.Sign)
			}
			x.hold(t)
			other.hold(t)
			other.step(t, grads, params)
		}
		x.any(t, g)
	}
}

// TestStateStays: rule 3, what Set is given is not changed, its spare room neither, and what stands there is not asked; nor if it is refused.
func TestStateStays(t *testing.T) {
	g := &samples.Grower{Source: 23}
	for range 1000 {
		c := g.Code(30)
		m := begin(t, c)
		var list []uint32
		for range len(m.State()) + g.Below(3) - min(1, len(m.State())) {
			list = append(list, uint32(g.Pattern()))
		}
		state := samples.Roomy(list, 7, 1<<31, 9)
		before := slices.Clone(state[:cap(state)])
		_ = m.Set(state)
		if !slices.Equal(state[:cap(state)], before) {
			t.Errorf("%08x became %08x", before, state[:cap(state)])
		}
	}
}

// within tells whether a text shares memory with another one.
func within(part, whole string) bool {
	first, begin := uintptr(unsafe.Pointer(unsafe.StringData(part))), uintptr(unsafe.Pointer(unsafe.StringData(whole)))
	return part != "" && whole != "" && first < begin+uintptr(len(whole)) && begin < first+uintptr(len(part))
}

// TestBytecodeIsNotKept: rule 3, the names that Signature tells do not stand in the bytes that New was given.
func TestBytecodeIsNotKept(t *testing.T) {
	b := strings.Clone(encoded(t, samples.EveryOp()))
	m, _ := New(b)
	for _, p := range m.Signature() {
		if within(p.Name, b) {
			t.Errorf("the name %q stands in the bytes", p.Name)
		}
	}
}

// TestClone: VM1, a clone ahead of all steps, between them, of a clone; behind it neither goes on with the other, by steps or by Set.
func TestClone(t *testing.T) {
	g := &samples.Grower{Source: 24}
	for range 500 {
		x := twinOf(t, g.Code(50))
		for range g.Below(4) {
			x.any(t, g)
		}
		other := x.clone()
		if other.m == x.m {
			t.Fatal("a clone is the machine itself")
		}
		other.hold(t)
		for range 3 { // now one, now the other
			x.any(t, g)
			other.hold(t)
			other.any(t, g)
			x.hold(t)
		}
		third := other.clone()
		for range 2 {
			third.any(t, g)
			x.any(t, g)
		}
		other.hold(t)
		if e := third.m.Set(x.m.State()); e != api.OK {
			t.Errorf("Set = %d", e)
		}
		other.hold(t)
		x.hold(t)
		if len(x.code.Sign) > 0 {
			holdInput(t, third.m, nil, nil)
		}
		x.any(t, g)
		other.any(t, g)
	}
}

// TestSameAgain: rule 4, a machine answers the same as another one of the same bytes that is given the same, whatever other machines do.
func TestSameAgain(t *testing.T) {
	g := &samples.Grower{Source: 25}
	for range 400 {
		c, d := g.Code(50), g.Code(50)
		first, second, other := twinOf(t, c), twinOf(t, c), twinOf(t, d)
		var grads, params, want [][][]api.F
		for i := range 4 {
			grads, params = append(grads, g.Vectors(c.Sign)), append(params, g.Vectors(c.Sign))
			want = append(want, first.step(t, grads[i], params[i]))
			other.any(t, g)
		}
		for i := range grads {
			if u := second.step(t, grads[i], params[i]); !same(u, want[i]) {
				t.Errorf("%08x, want %08x: %s", u, want[i], samples.Show(c))
			}
		}
	}
}

// TestSideBySide: rule 4, machines and clones go on at the same time, each by itself.
func TestSideBySide(t *testing.T) {
	g := &samples.Grower{Source: 26}
	for range 40 {
		x := twinOf(t, g.Code(60))
		x.any(t, g)
		begins := x.clone()
		var grads, params, want [][][]api.F
		for i := range 20 {
			grads, params = append(grads, g.Vectors(x.code.Sign)), append(params, g.Vectors(x.code.Sign))
			want = append(want, x.step(t, grads[i], params[i]))
		}
		state, spent := x.m.State(), x.m.Spent()
		var group sync.WaitGroup
		for range 4 {
			group.Go(func() {
				m := begins.m.Clone()
				for i := range grads {
					if u, e := m.Step(grads[i], params[i]); e != api.OK || !same(u, want[i]) {
						t.Errorf("step %d: %08x, %d, want %08x: %s", i, u, e, want[i], samples.Show(x.code))
					}
				}
				if !slices.Equal(m.State(), state) || m.Spent() != spent {
					t.Errorf("%08x, want %08x: %s", m.State(), state, samples.Show(x.code))
				}
			})
		}
		group.Wait()
	}
}
