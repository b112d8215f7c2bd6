package vm

import (
	"slices"
	"testing"

	"lathe/alloc"
	"lathe/api"
	"lathe/check"
	"lathe/fold"
	"lathe/fuse"
	"lathe/interp"
	"lathe/lower"
	"lathe/mealy"
	"lathe/prune"
	"lathe/reuse"
	"lathe/samples"
)

// TestEveryOp: VM2 to VM4, code with an instruction of each Op, with a block that is done and one that is left out.
func TestEveryOp(t *testing.T) {
	g := &samples.Grower{Source: 31}
	c := samples.EveryOp()
	holdTwin(t, g, c, 50)
	c.List[1].N = 0
	c.List = append(c.List, read("Whole D7 N1; When A7; Loop N1; Neg D13 A12; Out A13; Store A13 N3; Next; When A4; Grad D8; Store A8 N2; End; End; Store A0; Store A4 N1")...)
	holdTwin(t, g, c, 50)
}

// TestCodesFromAllOver: VM2 to VM4, codes from all over, several steps each: what interp does.
func TestCodesFromAllOver(t *testing.T) {
	g := &samples.Grower{Source: 32}
	var did [38]int
	for n := range 4000 {
		for _, c := range []api.Code{g.Code(60), g.SingleCode(n % 100)} {
			holdTwin(t, g, c, 4)
			for op, count := range samples.Counts(c) {
				did[op] += count
			}
		}
	}
	for op := 1; op <= 37; op++ {
		if did[op] < 1000 {
			t.Errorf("%s stands %d times in the codes", samples.Names()[op-1], did[op])
		}
	}
}

// TestLonger: VM2 to VM4, codes from all over whose parameters are longer.
func TestLonger(t *testing.T) {
	g := &samples.Grower{Source: 33}
	for range 300 {
		c := g.Code(40)
		for n := range c.Sign {
			c.Sign[n].Len = []int{1, 2, 17, 63, 64, 65, 300}[g.Below(7)]
		}
		holdTwin(t, g, c, 2)
	}
}

// passed is the code behind those passes whose bit is 1.
func passed(t *testing.T, c api.Code, choice int) api.Code {
	t.Helper()
	for bit, pass := range []func(c api.Code) (api.Code, api.Errno){fold.Fold, reuse.Reuse, prune.Prune, fuse.Fuse, alloc.Alloc} {
		if choice>>bit&1 == 0 {
			continue
		}
		d, e := pass(c)
		if e != api.OK {
			t.Fatalf("the pass %d: %d: %s", bit, e, samples.Show(c))
		}
		c = d
	}
	return c
}

// TestPrograms: VM2 and P3, typed programs, as they are lowered, and behind each choice of the passes: step after step what the machine of
// layer 15 does.
func TestPrograms(t *testing.T) {
	g := &samples.Grower{Source: 34}
	for n := range 1200 {
		list := g.Params(3)
		may := func(x api.Tx) bool { return check.Valid(x, list) == api.OK }
		x := g.Program(1+n%4, len(list), may)
		c, e := lower.Lower(x, list)
		if e != api.OK {
			t.Fatalf("no code: %d", e)
		}
		m := begin(t, passed(t, c, n%32))
		means, e := mealy.New(x, list)
		if e != api.OK {
			t.Fatalf("mealy.New = %d", e)
		}
		for step := range 6 {
			mood := g.Below(samples.Moods)
			grads, params := g.Moody(list, mood), g.Moody(list, mood)
			u := stepped(t, m, grads, params)
			if want, _ := means.Step(grads, params); !same(u, want) {
				t.Fatalf("step %d, passes %d: %08x, want %08x: %s", step, n%32, u, want, samples.Show(c))
			}
			if n%7 == step {
				other := m.Clone()
				if other.Set(m.State()) != api.OK {
					t.Fatal("the state is refused")
				}
				m = other
			}
		}
	}
}

// TestProgramsOnTheInterpreter: VM2 to VM4, such programs' codes on the machine and on the interpreter.
func TestProgramsOnTheInterpreter(t *testing.T) {
	g := &samples.Grower{Source: 35}
	for n := range 400 {
		list := g.Params(3)
		may := func(x api.Tx) bool { return check.Valid(x, list) == api.OK }
		c, e := lower.Lower(g.Program(1+n%3, len(list), may), list)
		if e != api.OK {
			t.Fatalf("no code: %d", e)
		}
		if c = passed(t, c, g.Below(32)); len(c.Slots)+len(c.List) <= maxSlots {
			holdTwin(t, g, c, 3)
		}
	}
}

// holdBig: VM2, code that is too great for marks does on the machine what it does on the interpreter, in so many steps.
func holdBig(t *testing.T, g *samples.Grower, c api.Code, steps int) *Machine {
	t.Helper()
	m := begin(t, c)
	r, e := interp.New(c)
	if e != api.OK {
		t.Fatalf("interp.New = %d", e)
	}
	for range steps {
		grads, params := g.Moody(c.Sign, 1), g.Moody(c.Sign, 1)
		u := stepped(t, m, grads, params)
		if want, e := r.Step(grads, params); e != api.OK || !same(u, want) {
			t.Fatalf("unlike: %s", samples.Show(c))
		}
		var state []uint32
		for n, s := range c.Slots {
			if !s.Keep {
				continue
			}
			a, whole, _ := r.Slot(n)
			if s.Type.Kind == api.TypeWhole {
				state = append(state, uint32(whole))
			}
			state = append(state, words(a...)...)
		}
		if !slices.Equal(m.State(), state) {
			t.Fatalf("unlike states: %s", samples.Show(c))
		}
	}
	return m
}
