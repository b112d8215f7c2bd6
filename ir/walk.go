package ir

import "lathe/api"

// A block is one that is open.
type block struct {
	isLoop bool
	param  int // of a loop
	ahead  int // how many registers were set ahead of it
}

// A walk goes through a code's instructions, in order.
type walk struct {
	code  *api.Code
	isSet []bool  // by register, at the place to which the walk has come
	set   []int   // those that are, in the order in which they were set, so that the end of a block can take back its own
	open  []block // the outermost first
}

// take goes over an instruction; false, if it is at fault.
func (w *walk) take(i *api.Inst) bool {
	r, known := rowOf(i.Op)
	if !known || !fits(w.code, i, r) || !w.mayStand(i, r) {
		return false
	}
	for _, register := range readBy(r, i) {
		if !w.isSet[register] {
			return false
		}
	}
	w.pass(i, r)
	return true
}

// mayStand tells whether an instruction that fits its row may stand here.
func (w *walk) mayStand(i *api.Inst, r row) bool {
	inner, isOpen := w.innermost()
	inLoop := isOpen && inner.isLoop
	switch i.Op {
	case api.OpWhen, api.OpLoop:
		return !inLoop && len(w.open) < api.MaxNest
	case api.OpEnd:
		return isOpen && !inLoop
	case api.OpNext:
		return inLoop
	}
	return !inLoop || mayBeLooped(i.Op) && mainType(w.code, i, r) == api.Type{Kind: api.TypeVector, Param: inner.param}
}

// mayBeLooped tells whether a loop may have that Op in it, with a vector of its parameter.
func mayBeLooped(op int) bool {
	switch op {
	case api.OpGrad, api.OpParam, api.OpOut, api.OpLoad, api.OpStore:
		return true
	}
	return Elementwise(op)
}

// innermost is the innermost block that is open, if there is one.
func (w *walk) innermost() (block, bool) {
	if len(w.open) == 0 {
		return block{}, false
	}
	return w.open[len(w.open)-1], true
}

// pass does to the walk what an instruction does that is not at fault.
func (w *walk) pass(i *api.Inst, r row) {
	switch i.Op {
	case api.OpWhen, api.OpLoop:
		w.open = append(w.open, block{i.Op == api.OpLoop, i.N, len(w.set)})
	case api.OpEnd, api.OpNext:
		w.leave()
	}
	if r[fieldD] != nothing && !w.isSet[i.D] {
		w.isSet[i.D] = true
		w.set = append(w.set, i.D)
	}
}

// leave ends the innermost block. What an OpWhen may leave out was perhaps not set; a loop is never left out by itself.
func (w *walk) leave() {
	last := len(w.open) - 1
	b := w.open[last]
	w.open = w.open[:last]
	if b.isLoop {
		return
	}
	for _, register := range w.set[b.ahead:] {
		w.isSet[register] = false
	}
	w.set = w.set[:b.ahead]
}
