package interp

import (
	"lathe/api"
	"lathe/ir"
	"lathe/sign"
	"lathe/vector"
)

// A frame is what one step works on. Well formed code reads no register ahead of setting it, so all begin with nothing.
type frame struct {
	code    *api.Code
	slots   []held // the run's own: what is stored stays
	numbers []api.F
	wholes  []int
	vectors map[int][]api.F // by register

	grads, params, updates [][]api.F
}

func newFrame(r *Run, grads, params [][]api.F) *frame {
	f := &frame{code: r.code, slots: r.slots, grads: grads, params: params}
	f.numbers, f.wholes = make([]api.F, len(r.code.Regs)), make([]int, len(r.code.Regs))
	f.vectors = map[int][]api.F{}
	f.updates = make([][]api.F, len(r.code.Sign))
	for p, param := range r.code.Sign {
		f.updates[p] = make([]api.F, sign.Numbers(param))
	}
	return f
}

// goThrough does the instructions, in order.
func (f *frame) goThrough() {
	leftOut := 0 // how many blocks in one another are open, from one on that is left out
	for at := range f.code.List {
		i := &f.code.List[at]
		switch {
		case leftOut > 0 && i.Op == api.OpEnd:
			leftOut--
		case i.Op == api.OpWhen && (leftOut > 0 || f.wholes[i.A] == 0):
			leftOut++
		case leftOut == 0:
			f.do(i)
		}
	}
}

// do does one instruction. The marks of blocks that are done, and of loops, have nothing to do.
func (f *frame) do(i *api.Inst) {
	switch i.Op {
	case api.OpNumber, api.OpPower, api.OpFrom, api.OpSum, api.OpLeast:
		f.numbers[i.D] = f.number(i)
	case api.OpWhole, api.OpTest, api.OpInc, api.OpLess2, api.OpSame, api.OpAnd, api.OpNot, api.OpChoose, api.OpMinus, api.OpOver:
		f.wholes[i.D] = f.whole(i)
	case api.OpGrad:
		f.vectors[i.D] = f.part(f.grads, i)
	case api.OpParam:
		f.vectors[i.D] = f.part(f.params, i)
	case api.OpOut:
		f.out(i)
	case api.OpLoad:
		f.set(i.D, f.slots[i.N])
	case api.OpStore:
		f.slots[i.N] = f.read(i.A)
	case api.OpWhen, api.OpEnd, api.OpLoop, api.OpNext:
	default:
		f.elementwise(i)
	}
}

// elementwise does one of those from OpCopy to OpSelect.
func (f *frame) elementwise(i *api.Inst) {
	d := f.code.Regs[i.D]
	if d.Kind == api.TypeWhole { // an OpCopy: the others have no whole numbers
		f.wholes[i.D] = f.wholes[i.A]
		return
	}
	var args [][]api.F
	for _, register := range ir.Reads(*i) {
		args = append(args, f.read(register).patterns)
	}
	list, _ := vector.Apply(i.Op, args...) // numbers, and vectors of D's parameter alone: they go together
	if len(list) < width(f.code, d) {      // all that were read are numbers
		list = filled(f.code, d, list[0])
	}
	f.set(i.D, held{patterns: list})
}

// read is what a register holds.
func (f *frame) read(register int) held {
	switch f.code.Regs[register].Kind {
	case api.TypeNumber:
		return held{patterns: []api.F{f.numbers[register]}}
	case api.TypeWhole:
		return held{whole: f.wholes[register]}
	}
	return held{patterns: f.vectors[register]}
}

// set makes a register hold what is of its type.
func (f *frame) set(register int, h held) {
	switch f.code.Regs[register].Kind {
	case api.TypeNumber:
		f.numbers[register] = h.patterns[0]
	case api.TypeWhole:
		f.wholes[register] = h.whole
	default:
		f.vectors[register] = h.patterns
	}
}
