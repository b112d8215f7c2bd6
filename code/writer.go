package code

import "lathe/api"

// A writer puts parts of bytecode one behind the other. What it is given belongs to code that is well formed.
type writer struct {
	bytes []byte
}

// code writes all but the fingerprint.
func (w *writer) code(c *api.Code) {
	w.bytes = append(w.bytes, mark...)
	writeList(w, c.Sign, w.param)
	writeList(w, c.Regs, w.typed)
	writeList(w, c.Slots, w.slot)
	writeList(w, c.List, w.instruction)
}

// writeList writes how many items there are, and each of them.
func writeList[T any](w *writer, list []T, write func(item T)) {
	w.number(len(list))
	for _, item := range list {
		write(item)
	}
}

func (w *writer) param(p api.Param) {
	w.small(p.Kind)
	w.number(len(p.Name))
	w.bytes = append(w.bytes, p.Name...)
	w.number(p.Len)
}

func (w *writer) typed(t api.Type) {
	w.small(t.Kind)
	if t.Kind == api.TypeVector {
		w.number(t.Param)
	}
}

func (w *writer) slot(s api.Slot) {
	keep := 0
	if s.Keep {
		keep = 1
	}
	w.small(keep)
	w.typed(s.Type)
	if s.Type.Kind == api.TypeWhole {
		w.number(s.Int)
	} else {
		w.fixed(uint64(s.Bits), patternBytes)
	}
}

func (w *writer) instruction(i api.Inst) {
	w.small(i.Op)
	for _, field := range fieldsOf(&i) {
		w.number(*field)
	}
	if i.Op == api.OpNumber {
		w.fixed(uint64(i.Bits), patternBytes)
	}
}

// small writes what has a byte to itself.
func (w *writer) small(n int) {
	w.bytes = append(w.bytes, byte(n))
}

// number writes groups of seven bits, the lowest first, as many as there are to write.
func (w *writer) number(n int) {
	for ; n >= 128; n /= 128 {
		w.small(n%128 + 128)
	}
	w.small(n)
}

// fixed writes so many bytes, the lowest first.
func (w *writer) fixed(n uint64, count int) {
	for range count {
		w.bytes = append(w.bytes, byte(n))
		n >>= 8
	}
}
