package alloc

import (
	"slices"

	"lathe/api"
	"lathe/ir"
)

// A walk goes through a code's instructions, in order, and writes them down with few registers. A value stands in a register when it is
// read or set; in between it may have to make room for another one, and is made again when it is read: loaded from a slot of its own, to
// which it was stored then, if nothing simpler makes it.
type walk struct {
	code    *api.Code
	values  []value  // by register of the given code
	ends    [][]int  // by place: the values that are not alive behind it, of those that it reads or sets
	banks   [][]int  // by sort: the registers of the answer
	spare   [][]int  // by sort: the slots that were a value's, which is not read any more
	holders []int    // by register of the answer: the value whose register it is, or none
	open    []block  // of OpWhen, the innermost last
	loop    api.Inst // the mark that began the last loop
	cut     int      // the place at which that has to be cut, or none

	regs  []api.Type
	slots []api.Slot
	list  []api.Inst
}

func newWalk(c *api.Code) *walk {
	sorts := vectors + len(c.Sign)
	return &walk{
		code: c, values: valuesOf(c), ends: endsOf(c), banks: make([][]int, sorts), spare: make([][]int, sorts), cut: none,
		slots: slices.Clone(c.Slots),
	}
}

// take goes over the instruction at a place.
func (w *walk) take(place int) {
	i := w.code.List[place]
	switch {
	case i.Op == api.OpLoop:
		w.loop = i
		w.beginLoop(place + 1)
		return
	case i.Op == api.OpEnd:
		w.leave()
	case place == w.cut:
		w.put(api.Inst{Op: api.OpNext})
		w.beginLoop(place)
	}
	w.write(place)
	if i.Op == api.OpWhen {
		w.enter()
	}
}

func (w *walk) put(i api.Inst) { w.list = append(w.list, i) }

// write writes an instruction down with registers of the answer. What it reads last makes room for what it sets.
func (w *walk) write(place int) {
	i := w.code.List[place]
	read := ir.Reads(i)
	for _, n := range read {
		w.need(n)
	}
	fields := [...]*int{&i.A, &i.B, &i.C} // a row names A ahead of B, and B ahead of C
	for k, n := range read {
		*fields[k] = w.values[n].register
	}
	w.pass(place)
	if ir.Sets(i) {
		v := &w.values[i.D]
		v.isSafe = isSource(v.again.Op)
		i.D = w.room(i.D)
	}
	w.put(i)
}

// pass leaves an instruction behind: it is no longer ahead of the values that it mentions, and some of them end.
func (w *walk) pass(place int) {
	i := w.code.List[place]
	if ir.Sets(i) {
		w.values[i.D].isAlive = true
	}
	for _, n := range w.ends[place] {
		w.values[n].isAlive = false
	}
	for _, n := range mentioned(i) {
		v := &w.values[n]
		v.ahead = v.ahead[1:]
		if len(v.ahead) == 0 && v.again.Op == api.OpLoad {
			sort := sortOf(w.code.Regs[n])
			w.spare[sort] = append(w.spare[sort], v.again.N)
		}
	}
}

// beginLoop begins a loop, or goes on with it, from a place on. Numbers can't be loaded in it: as many as there are registers, of those
// that are read there, stand ready ahead of it. Where another one is read, the loop has to be cut.
func (w *walk) beginLoop(place int) {
	var ready []int
	for w.cut = none; w.cut == none && w.code.List[place].Op != api.OpNext; place++ {
		more := w.withNumbers(ready, w.code.List[place])
		if len(more) > api.KeepScalar {
			w.cut = place
		} else {
			ready = more
		}
	}
	for _, n := range ready {
		w.need(n)
	}
	w.put(w.loop)
}

// withNumbers is a list of numbers with those that an instruction reads, each once.
func (w *walk) withNumbers(list []int, i api.Inst) []int {
	for _, n := range ir.Reads(i) {
		if w.code.Regs[n].Kind == api.TypeNumber && !slices.Contains(list, n) {
			list = append(list, n)
		}
	}
	return list
}
