package interp

import (
	"slices"
	"testing"

	"lathe/api"
	"lathe/samples"
)

// holdStep: a step's updates, and what the slots hold behind it, are what the chapter's words say.
func holdStep(t *testing.T, r *Run, w *words, grads, params [][]api.F) {
	t.Helper()
	u, want := stepped(t, r, grads, params), w.step(grads, params)
	if !same(u, want) {
		t.Errorf("%08x, want %08x: %s", u, want, samples.Show(w.code))
	}
	holdSlots(t, r, w.slots)
	for _, v := range u {
		if slices.ContainsFunc(v, func(a api.F) bool { return !samples.IsTold(a) }) {
			t.Errorf("%08x has a NaN that is not told: %s", u, samples.Show(w.code))
		}
	}
}

// TestWords: IN1 to IN3, codes from all over, several steps each.
func TestWords(t *testing.T) {
	g := &samples.Grower{Source: 17}
	var did [38]int
	zeros := 0
	for range 12000 {
		c := g.Code(60)
		r, w := begin(t, c), wordsOf(c)
		for range 4 {
			holdStep(t, r, w, g.Vectors(c.Sign), g.Vectors(c.Sign))
			if !slices.ContainsFunc(w.answer, func(v []api.F) bool { return slices.ContainsFunc(v, func(a api.F) bool { return a != 0 }) }) {
				zeros++
			}
		}
		for _, i := range c.List {
			did[i.Op]++
		}
		if t.Failed() {
			t.Fatal(samples.Show(c))
		}
	}
	for op := 1; op <= 37; op++ {
		if did[op] < 1000 {
			t.Errorf("%s stands %d times in the codes", samples.Names()[op-1], did[op])
		}
	}
	if zeros > 30000 {
		t.Errorf("%d of 48000 steps answer noughts alone", zeros)
	}
}

// unmarked is the code without its loops' marks.
func unmarked(c api.Code) api.Code {
	c.List = slices.DeleteFunc(slices.Clone(c.List), func(i api.Inst) bool { return i.Op == api.OpLoop || i.Op == api.OpNext })
	return c
}

// TestUnmarked: IN4, a run of code and one of it without its loops' marks tell the same.
func TestUnmarked(t *testing.T) {
	g := &samples.Grower{Source: 18}
	loops := 0
	for range 6000 {
		c := g.Code(60)
		less := unmarked(c)
		loops += len(c.List) - len(less.List)
		r, other := begin(t, c), begin(t, less)
		for range 3 {
			grads, params := g.Vectors(c.Sign), g.Vectors(c.Sign)
			if u, v := stepped(t, r, grads, params), stepped(t, other, grads, params); !same(u, v) {
				t.Fatalf("%08x, without marks %08x: %s", u, v, samples.Show(c))
			}
			holdAlike(t, r, other, len(c.Slots))
		}
	}
	if loops < 5000 {
		t.Errorf("only %d marks", loops)
	}
}

// TestWithMarks: IN4, marks put about instructions that may be looped change nothing.
func TestWithMarks(t *testing.T) {
	g := &samples.Grower{Source: 19}
	put := 0
	for range 6000 {
		c := unmarked(g.Code(60))
		more := c
		more.List = nil
		for _, i := range c.List {
			if param, ok := loopOf(c, i); ok && g.Below(2) == 0 {
				put++
				more.List = append(more.List, api.Inst{Op: api.OpLoop, N: param}, i, api.Inst{Op: api.OpNext})
			} else {
				more.List = append(more.List, i)
			}
		}
		r, other := begin(t, c), begin(t, joined(more))
		for range 3 {
			grads, params := g.Vectors(c.Sign), g.Vectors(c.Sign)
			if u, v := stepped(t, r, grads, params), stepped(t, other, grads, params); !same(u, v) {
				t.Fatalf("%08x, with marks %08x: %s", u, v, samples.Show(more))
			}
			holdAlike(t, r, other, len(c.Slots))
		}
	}
	if put < 10000 {
		t.Errorf("only %d loops", put)
	}
}

// loopOf is the parameter of an instruction that a loop may have in it.
func loopOf(c api.Code, i api.Inst) (int, bool) {
	register := -1
	switch {
	case i.Op >= api.OpCopy && i.Op <= api.OpSelect || i.Op == api.OpGrad || i.Op == api.OpParam || i.Op == api.OpLoad:
		register = i.D
	case i.Op == api.OpOut || i.Op == api.OpStore:
		register = i.A
	}
	if register < 0 || c.Regs[register].Kind != api.TypeVector {
		return 0, false
	}
	return c.Regs[register].Param, true
}

// joined is the code with loops of one parameter that follow each other made one.
func joined(c api.Code) api.Code {
	var list []api.Inst
	param := -1
	for _, i := range c.List {
		last := len(list) - 1
		if i.Op == api.OpLoop && last >= 0 && list[last].Op == api.OpNext && i.N == param {
			list = list[:last]
			continue
		}
		if i.Op == api.OpLoop {
			param = i.N
		}
		list = append(list, i)
	}
	c.List = list
	return c
}

// TestSameAgain: rule 4, a run answers the same as another one of the same code that is given the same, whatever other runs there are.
func TestSameAgain(t *testing.T) {
	g := &samples.Grower{Source: 20}
	for range 500 {
		c := g.Code(50)
		var grads, params [][][]api.F
		for range 4 {
			grads, params = append(grads, g.Vectors(c.Sign)), append(params, g.Vectors(c.Sign))
		}
		r, w := begin(t, c), wordsOf(c)
		other := begin(t, g.Code(50))
		for i := range grads {
			holdStep(t, r, w, grads[i], params[i])
			_, _ = other.Step(g.Vectors(other.code.Sign), g.Vectors(other.code.Sign))
		}
		again, w := begin(t, c), wordsOf(c)
		for i := range grads {
			holdStep(t, again, w, grads[i], params[i])
		}
		holdAlike(t, again, r, len(c.Slots))
	}
}
