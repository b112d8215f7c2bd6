package fuse

import (
	"lathe/api"
	"lathe/ir"
)

// A loop is one that waits to be written. The zero value has nothing yet.
type loop struct {
	list    []api.Inst
	vectors map[int]struct{} // the registers that it sets
	numbers map[int]struct{} // the registers of TypeNumber that it reads
}

// put lets an instruction that may be looped wait behind the others.
func (l *loop) put(i api.Inst, regs []api.Type) {
	if len(l.list) == 0 {
		*l = loop{vectors: map[int]struct{}{}, numbers: map[int]struct{}{}}
	}
	l.list = append(l.list, i)
	if ir.Sets(i) {
		l.vectors[i.D] = struct{}{}
	}
	for _, register := range ir.Reads(i) {
		if regs[register].Kind == api.TypeNumber {
			l.numbers[register] = struct{}{}
		}
	}
}

// isAheadOf tells whether an instruction that is no mark and can't be looped goes behind the loop. It has to, if it reads what the loop
// sets, or sets what the loop reads: nothing else can be between them, as it sets neither a vector nor a slot of one. And no more numbers
// go ahead of a loop that reads KeepScalar: all that a loop reads stand in registers while it is done, and alloc has no more of these.
func (l *loop) isAheadOf(i api.Inst, regs []api.Type) bool {
	for _, register := range ir.Reads(i) {
		if _, isSet := l.vectors[register]; isSet {
			return true
		}
	}
	if !ir.Sets(i) || regs[i.D].Kind != api.TypeNumber {
		return false
	}
	_, isRead := l.numbers[i.D]
	return isRead || len(l.numbers) >= api.KeepScalar
}
