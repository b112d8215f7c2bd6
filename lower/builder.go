package lower

import "lathe/api"

// A builder is code that grows. Each instruction has a register of its own to set.
type builder struct{ code api.Code }

// isFull tells whether the code is beyond a limit already, so that it need not grow on.
func (b *builder) isFull() bool {
	return len(b.code.List) > api.MaxCode || len(b.code.Regs) > api.MaxRegs || len(b.code.Slots) > api.MaxSlots
}

// add puts an instruction to the code.
func (b *builder) add(i api.Inst) { b.code.List = append(b.code.List, i) }

// set is a new register, of that type, that an instruction sets.
func (b *builder) set(t api.Type, i api.Inst) int {
	i.D = len(b.code.Regs)
	b.code.Regs = append(b.code.Regs, t)
	b.add(i)
	return i.D
}

// reading is an instruction that reads registers.
func reading(op int, args ...int) api.Inst {
	var fields [3]int
	copy(fields[:], args)
	return api.Inst{Op: op, A: fields[0], B: fields[1], C: fields[2]}
}

func numberType() api.Type { return api.Type{Kind: api.TypeNumber} }

func wholeType() api.Type { return api.Type{Kind: api.TypeWhole} }

func vectorType(param int) api.Type { return api.Type{Kind: api.TypeVector, Param: param} }

// slot is a new one.
func (b *builder) slot(s api.Slot) int {
	b.code.Slots = append(b.code.Slots, s)
	return len(b.code.Slots) - 1
}

func (b *builder) load(slot int) int {
	return b.set(b.code.Slots[slot].Type, api.Inst{Op: api.OpLoad, N: slot})
}

func (b *builder) store(slot, x int) { b.add(api.Inst{Op: api.OpStore, A: x, N: slot}) }

// renewed is what a new slot holds from this step on: it is made of what the slot held, at the beginning begin everywhere.
func (b *builder) renewed(t api.Type, begin api.F, next func(old int) int) int {
	slot := b.slot(api.Slot{Type: t, Keep: true, Bits: begin})
	fresh := next(b.load(slot))
	b.store(slot, fresh)
	return fresh
}

// renewedLike is one for a slot of the type of a register.
func (b *builder) renewedLike(x int, begin api.F, next func(old int) int) int {
	return b.renewed(b.code.Regs[x], begin, next)
}

// counted is a count of its own: ahead of the step, and behind it.
func (b *builder) counted() (int, int) {
	var ahead int
	behind := b.renewed(wholeType(), api.Zero, func(old int) int {
		ahead = old
		return b.wholes(api.OpInc, old)
	})
	return ahead, behind
}

// when does something in a block, which is left out where x is 0.
func (b *builder) when(x int, do func()) {
	b.add(reading(api.OpWhen, x))
	do()
	b.add(api.Inst{Op: api.OpEnd})
}

// taken are pieces of the parts of parameters that an instruction reads.
func (b *builder) taken(op int, list []piece) []piece {
	out := make([]piece, len(list))
	for i, a := range list {
		out[i] = piece{param: a.param, parts: a.parts}
		for _, part := range a.parts {
			out[i].at = append(out[i].at, b.set(vectorType(a.param), api.Inst{Op: op, N: part}))
		}
	}
	return out
}

func (b *builder) grads(list []piece) []piece { return b.taken(api.OpGrad, list) }

// params is the parameters' piece beside one of the gradients'.
func (b *builder) params(g piece) piece { return b.taken(api.OpParam, []piece{g})[0] }

// out makes pieces updates.
func (b *builder) out(list []piece) {
	for _, a := range list {
		for i, part := range a.parts {
			b.add(api.Inst{Op: api.OpOut, A: a.at[i], N: part})
		}
	}
}
