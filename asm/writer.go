package asm

import (
	"strconv"
	"strings"

	"lathe/api"
	"lathe/bits"
)

// A writer puts words one behind the other. What it is given belongs to code that is well formed.
type writer struct {
	text strings.Builder

	sorts, kinds, types, keeps, ops []string
}

// textOf is the text of code.
func textOf(c *api.Code) string {
	w := writer{sorts: sortWords(), kinds: kindWords(), types: typeWords(), keeps: keepWords(), ops: opWords()}
	w.line(head)
	for _, p := range c.Sign {
		w.line(w.sorts[paramLine], p.Name, w.kinds[p.Kind], number(p.Len))
	}
	for n, t := range c.Regs {
		w.line(w.sorts[regLine], number(n), w.typed(t))
	}
	for n, s := range c.Slots {
		w.line(w.sorts[slotLine], number(n), w.slot(s))
	}
	for _, i := range c.List {
		w.line(w.instruction(i)...)
	}
	return w.text.String()
}

// line writes a line of these words.
func (w *writer) line(list ...string) {
	w.text.WriteString(strings.Join(list, " "))
	w.text.WriteByte('\n')
}

func (w *writer) typed(t api.Type) string {
	if t.Kind == api.TypeVector {
		return w.types[t.Kind] + " " + number(t.Param)
	}
	return w.types[t.Kind]
}

// slot is what stands behind a slot's number.
func (w *writer) slot(s api.Slot) string {
	keep, begins := isLocal, bits.Hex(s.Bits)
	if s.Keep {
		keep = isKept
	}
	if s.Type.Kind == api.TypeWhole {
		begins = number(s.Int)
	}
	return w.keeps[keep] + " " + w.typed(s.Type) + " " + begins
}

// instruction is the words of one.
func (w *writer) instruction(i api.Inst) []string {
	list := []string{w.ops[i.Op]}
	for _, register := range registersOf(&i) {
		list = append(list, "r"+number(*register))
	}
	if hasN(i.Op) {
		list = append(list, number(i.N))
	}
	if hasBits(i.Op) {
		list = append(list, bits.Hex(i.Bits))
	}
	return list
}

// number is a number's text.
func number(n int) string { return strconv.Itoa(n) }
