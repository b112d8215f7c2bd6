package reuse

import (
	"lathe/api"
	"lathe/ir"
)

// A reckoning is all that makes two instructions twins.
type reckoning struct {
	by api.Inst // its D is 0
	of api.Type // the type of the D that it had
}

// A walk goes through a code's instructions, in order. A register is steady, if one instruction alone sets it: then it holds the same
// wherever it is read, and another one that holds the same can be read instead, wherever the setting of it was done too. With registers
// that are not steady nothing is done. Those of single code all are.
type walk struct {
	code     *api.Code
	isSteady []bool            // by register
	instead  []int             // by register: the one to read instead; it is steady, if this one is
	holder   map[reckoning]int // by what was reckoned above the place to which the walk has come: the register that holds it
	reckoned []reckoning       // all that holder has, in order, so that the end of a block can take back its own
	open     []int             // by block of OpWhen that is open, the outermost first: how many were reckoned ahead of it
	left     []api.Inst
}

func newWalk(c *api.Code) *walk {
	w := &walk{code: c, isSteady: make([]bool, len(c.Regs)), instead: make([]int, len(c.Regs)), holder: map[reckoning]int{}}
	setters := make([]int, len(c.Regs))
	for _, i := range c.List {
		if ir.Sets(i) {
			setters[i.D]++
		}
	}
	for register, count := range setters {
		w.isSteady[register] = count == 1
		w.instead[register] = register
	}
	return w
}

// take goes over an instruction. Where a register holds already what it would make, it does not stay.
func (w *walk) take(i api.Inst) {
	i = w.redirected(i)
	if register, isHeld := w.held(i); isHeld {
		w.instead[i.D] = register
		return
	}
	w.left = append(w.left, i)
	switch {
	case i.Op == api.OpWhen:
		w.open = append(w.open, len(w.reckoned))
	case i.Op == api.OpEnd:
		w.leave()
	case w.mayHaveTwins(i):
		r := w.reckoningOf(i)
		w.holder[r] = i.D
		w.reckoned = append(w.reckoned, r)
	}
}

// redirected is the instruction that reads what is to be read instead. A row names A ahead of B, and B ahead of C.
func (w *walk) redirected(i api.Inst) api.Inst {
	fields := [...]*int{&i.A, &i.B, &i.C}
	for n, register := range ir.Reads(i) {
		*fields[n] = w.instead[register]
	}
	return i
}

// held is the register that holds what an instruction would make, if there is one here.
func (w *walk) held(i api.Inst) (int, bool) {
	switch {
	case !w.worksOnSteady(i):
		return 0, false
	case i.Op == api.OpCopy:
		return i.A, w.code.Regs[i.A] == w.code.Regs[i.D] // else it fills a vector with a number
	}
	register, isHeld := w.holder[w.reckoningOf(i)]
	return register, isHeld
}

// worksOnSteady tells whether an instruction sets a register, and this one and all that it reads are steady.
func (w *walk) worksOnSteady(i api.Inst) bool {
	if !ir.Sets(i) || !w.isSteady[i.D] {
		return false
	}
	for _, register := range ir.Reads(i) {
		if !w.isSteady[register] {
			return false
		}
	}
	return true
}

// mayHaveTwins tells whether another instruction like this one would make the same. What a slot holds may change between two OpLoads.
func (w *walk) mayHaveTwins(i api.Inst) bool {
	return i.Op != api.OpLoad && i.Op != api.OpCopy && w.worksOnSteady(i)
}

func (w *walk) reckoningOf(i api.Inst) reckoning {
	of := w.code.Regs[i.D]
	i.D = 0
	return reckoning{i, of}
}

// leave ends a block of OpWhen: what was reckoned in it stands above nothing that follows. Loops are always done, so they do not count.
func (w *walk) leave() {
	last := len(w.open) - 1
	ahead := w.open[last]
	w.open = w.open[:last]
	for _, r := range w.reckoned[ahead:] {
		delete(w.holder, r)
	}
	w.reckoned = w.reckoned[:ahead]
}
