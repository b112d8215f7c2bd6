package alike

import (
	"slices"
	"strconv"

	"lathe/api"
	"lathe/interp"
	"lathe/samples"
)

// A Watch is code at work on the interpreter, of which can be told what its last step did.
type Watch struct {
	*interp.Run
	code api.Code
}

// NewWatch begins with code; or it tells what is wrong.
func NewWatch(c api.Code) (*Watch, string) {
	run, e := interp.New(marked(c))
	if e != api.OK {
		return nil, "interp.New = " + strconv.Itoa(int(e)) + ": " + samples.Show(c)
	}
	return &Watch{run, samples.CloneCode(c)}, ""
}

// Clone is one that goes on by itself.
func (w *Watch) Clone() *Watch { return &Watch{w.Run.Clone(), w.code} }

// Did tells whether the last step did the instruction at a place.
func (w *Watch) Did(place int) bool {
	_, mark, _ := w.Slot(len(w.code.Slots) + place)
	return mark == 1
}

// Spent is what the instructions cost that the last step did, by the chapter's table.
func (w *Watch) Spent() int {
	spent := 0
	for place, i := range w.code.List {
		if w.Did(place) {
			spent += samples.Cost(w.code, i)
		}
	}
	return spent
}

// State is what the slots with Keep hold, number by number.
func (w *Watch) State() []uint32 {
	var state []uint32
	for n, s := range w.code.Slots {
		if !s.Keep {
			continue
		}
		patterns, whole, _ := w.Slot(n)
		if s.Type.Kind == api.TypeWhole {
			state = append(state, uint32(whole))
		}
		for _, a := range patterns {
			state = append(state, uint32(a))
		}
	}
	return state
}

// marked is the code with one more slot for each instruction, which holds 1 behind a step that did the instruction, else 0. In a loop no
// whole number may stand; all of it is done where its beginning is, so the marks stand ahead of that.
func marked(c api.Code) api.Code {
	d := samples.CloneCode(c)
	one := len(d.Regs)
	d.Regs, d.List = append(d.Regs, api.Type{Kind: 2}), nil
	loop := -1 // where the loop begins that is open
	for at, i := range c.List {
		d.Slots = append(d.Slots, api.Slot{Type: api.Type{Kind: 2}})
		mark := []api.Inst{{Op: 2, D: one, N: 1}, {Op: 33, A: one, N: len(c.Slots) + at}}
		if loop >= 0 {
			d.List = slices.Insert(d.List, loop, mark...)
			loop += len(mark)
		} else {
			d.List = append(d.List, mark...)
		}
		switch i.Op {
		case api.OpLoop:
			loop = len(d.List)
		case api.OpNext:
			loop = -1
		}
		d.List = append(d.List, i)
	}
	return d
}
