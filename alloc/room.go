package alloc

import "lathe/api"

// need brings a value that is alive into a register.
func (w *walk) need(n int) {
	if w.values[n].register == none {
		i := w.values[n].again
		i.D = w.room(n)
		w.put(i)
	}
}

// room is the register in which a value is to stand from here on: the one that is its own still, if there is one, so that what is set anew
// in a block stands where it stood ahead of it.
func (w *walk) room(n int) int {
	v := &w.values[n]
	if v.register == none {
		v.register = w.give(w.code.Regs[n])
		w.holders[v.register] = n
	}
	return v.register
}

// give is a register of a type that is nobody's: one whose value is mentioned nowhere ahead, else a new one, else the one that is wanted
// least. So where there are no more values of a sort than registers, none has to make room.
func (w *walk) give(t api.Type) int {
	sort := sortOf(t)
	least := w.leastWanted(sort)
	if len(w.banks[sort]) < limitOf(sort) && (least == none || w.next(least) < len(w.code.List)) {
		return w.newRegister(t)
	}
	if n := w.holders[least]; n != none {
		w.save(n)
		w.values[n].register = none
	}
	return least
}

func (w *walk) newRegister(t api.Type) int {
	register := len(w.regs)
	w.regs = append(w.regs, t)
	w.holders = append(w.holders, none)
	w.banks[sortOf(t)] = append(w.banks[sortOf(t)], register)
	return register
}

// leastWanted is the register of a sort that is, or none: of those whose value is not alive, if there are such, the one whose value is
// mentioned furthest ahead. What an instruction reads is mentioned nearest, and there are more registers than one reads; so are the numbers
// that a loop reads: no value makes room for another that stands ready together with it.
func (w *walk) leastWanted(sort int) int {
	least := none
	for _, register := range w.banks[sort] {
		if least == none || w.isLessWanted(register, least) {
			least = register
		}
	}
	return least
}

func (w *walk) isLessWanted(register, other int) bool {
	if isAlive := w.isAlive(register); isAlive != w.isAlive(other) {
		return !isAlive
	}
	return w.next(register) > w.next(other)
}

// isAlive tells whether a register's value is.
func (w *walk) isAlive(register int) bool {
	n := w.holders[register]
	return n != none && w.values[n].isAlive
}

// next is the place ahead at which a register's value is mentioned first; that of the end, if there is none.
func (w *walk) next(register int) int {
	if n := w.holders[register]; n != none && len(w.values[n].ahead) > 0 {
		return w.values[n].ahead[0]
	}
	return len(w.code.List)
}

// save sees to it that a value which stands in a register can be made again, if it may be read yet.
func (w *walk) save(n int) {
	v := &w.values[n]
	if !v.isAlive || v.isSafe {
		return
	}
	if v.again.Op != api.OpLoad {
		v.again = api.Inst{Op: api.OpLoad, N: w.slot(w.code.Regs[n])}
	}
	w.put(api.Inst{Op: api.OpStore, A: v.register, N: v.again.N})
	v.isSafe = true
}

// slot is one for a value of a type: one that was another's, if there is such a one.
func (w *walk) slot(t api.Type) int {
	sort := sortOf(t)
	if last := len(w.spare[sort]) - 1; last >= 0 {
		n := w.spare[sort][last]
		w.spare[sort] = w.spare[sort][:last]
		return n
	}
	w.slots = append(w.slots, api.Slot{Type: t})
	return len(w.slots) - 1
}
