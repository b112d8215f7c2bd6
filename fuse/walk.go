package fuse

import (
	"lathe/api"
	"lathe/ir"
)

// A walk goes through a code's instructions, in order, and takes its loops apart. What may be looped waits, in a loop for each parameter,
// until something comes that goes behind that loop: so a loop is not cut by each number that is reckoned in between. All that works on
// one parameter's vectors keeps its order, and so does all that can't be looped. Loops of two parameters have nothing in common but
// numbers, which they only read.
type walk struct {
	code    *api.Code
	waiting []loop // by parameter
	depth   int    // how many blocks of OpWhen are open
	left    []api.Inst
}

func newWalk(c *api.Code) *walk {
	return &walk{code: c, waiting: make([]loop, len(c.Sign))}
}

// take goes over an instruction. Loops are written just ahead of one that can't be looped, or at the end, and of each parameter one at
// most: so no two become neighbours.
func (w *walk) take(i api.Inst) {
	if i.Op == api.OpLoop || i.Op == api.OpNext {
		return
	}
	if param, mayBeLooped := w.loopOf(i); mayBeLooped {
		w.waiting[param].put(i, w.code.Regs)
		return
	}
	switch i.Op {
	case api.OpWhen:
		w.writeAll()
		w.depth++
	case api.OpEnd:
		w.writeAll()
		w.depth--
	default:
		w.writeAheadOf(i)
	}
	w.left = append(w.left, i)
}

// loopOf is the parameter of the loops in which an instruction may stand, if there is one.
func (w *walk) loopOf(i api.Inst) (int, bool) {
	register := i.D
	switch i.Op {
	case api.OpGrad, api.OpParam, api.OpLoad:
	case api.OpOut, api.OpStore:
		register = i.A
	default:
		if !ir.Elementwise(i.Op) {
			return 0, false
		}
	}
	is := w.code.Regs[register]
	return is.Param, is.Kind == api.TypeVector
}

func (w *walk) writeAll() {
	for param := range w.waiting {
		w.write(param)
	}
}

func (w *walk) writeAheadOf(i api.Inst) {
	for param := range w.waiting {
		if w.waiting[param].isAheadOf(i, w.code.Regs) {
			w.write(param)
		}
	}
}

// write ends the waiting of a parameter's loop, if it waits. Within MaxNest blocks there is no room for another one: what it has stays
// loose there.
func (w *walk) write(param int) {
	list := w.waiting[param].list
	w.waiting[param] = loop{}
	if len(list) == 0 {
		return
	}
	if w.depth == api.MaxNest {
		w.left = append(w.left, list...)
		return
	}
	w.left = append(w.left, api.Inst{Op: api.OpLoop, N: param})
	w.left = append(w.left, list...)
	w.left = append(w.left, api.Inst{Op: api.OpNext})
}
