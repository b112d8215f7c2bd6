package asm

import (
	"strings"

	"lathe/api"
	"lathe/sign"
)

// A reader takes the lines of a text one behind the other, and gathers their code.
type reader struct {
	code  api.Code
	lines int // how many were taken, the last one perhaps wrongly
	sort  int // of the line that was taken last

	sorts, kinds, types, keeps, ops map[string]int
}

func newReader() *reader {
	return &reader{
		sorts: meanings(sortWords()), kinds: meanings(kindWords()), types: meanings(typeWords()),
		keeps: meanings(keepWords()), ops: meanings(opWords()),
	}
}

// read takes all lines of a text, up to the first that can't be the next one.
func (r *reader) read(text string) bool {
	for {
		line, rest, isEnded := strings.Cut(text, "\n")
		if !r.take(line) || !isEnded {
			return false
		}
		if rest == "" {
			return true
		}
		text = rest
	}
}

// take takes the next line. It tells whether the line can be that.
func (r *reader) take(line string) bool {
	r.lines++
	if r.lines == 1 {
		return line == head
	}
	sort := r.sortOf(line)
	if sort < r.sort {
		return false
	}
	r.sort = sort
	w := &words{rest: line}
	switch sort {
	case paramLine:
		r.param(w)
	case regLine:
		r.register(w)
	case slotLine:
		r.slot(w)
	default:
		r.instruction(w)
	}
	return w.areRight()
}

// sortOf is the sort of a line, as far as its first word tells it; of the two that begin with the same word the blanks tell it.
func (r *reader) sortOf(line string) int {
	first, rest, _ := strings.Cut(line, " ")
	sort, isFound := r.sorts[first]
	if !isFound || sort == paramLine && strings.Count(rest, " ") < 2 {
		return instLine
	}
	return sort
}

func (r *reader) param(w *words) {
	w.next()
	p := api.Param{Name: strings.Clone(w.next())} // the text is the caller's
	p.Kind = w.meaning(r.kinds)
	p.Len = w.number()
	w.hold(sign.Check([]api.Param{p}) == api.OK)
	r.code.Sign = append(r.code.Sign, p)
}

func (r *reader) register(w *words) {
	w.next()
	w.hold(w.number() == len(r.code.Regs))
	r.code.Regs = append(r.code.Regs, r.typed(w))
}

func (r *reader) typed(w *words) api.Type {
	t := api.Type{Kind: w.meaning(r.types)}
	if t.Kind == api.TypeVector {
		t.Param = w.number()
	}
	return t
}

func (r *reader) slot(w *words) {
	w.next()
	w.hold(w.number() == len(r.code.Slots))
	s := api.Slot{Keep: w.meaning(r.keeps) == isKept}
	s.Type = r.typed(w)
	if s.Type.Kind == api.TypeWhole {
		s.Int = w.number()
	} else {
		s.Bits = w.pattern()
	}
	r.code.Slots = append(r.code.Slots, s)
}

func (r *reader) instruction(w *words) {
	i := api.Inst{Op: w.meaning(r.ops)}
	for _, register := range registersOf(&i) {
		*register = w.register()
	}
	if hasN(i.Op) {
		i.N = w.number()
	}
	if hasBits(i.Op) {
		i.Bits = w.pattern()
	}
	r.code.List = append(r.code.List, i)
}

// lineOf is the line of an instruction, by its place; 0, if none has that place.
func (r *reader) lineOf(place int) int {
	count := len(r.code.List)
	if place < 0 || place >= count {
		return 0
	}
	return r.lines - count + place + 1 // nothing stands behind the instructions
}
