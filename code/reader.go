package code

import (
	"strings"

	"lathe/api"
)

// numberBits are how many bits a number may have.
const numberBits = 63

// A reader takes parts of bytecode one behind the other, and gives up by panic at the first one that is at fault.
type reader struct {
	bytes string
	at    int // where the next part begins
}

// code reads all but the fingerprint.
func (r *reader) code() api.Code {
	r.mark()
	c := api.Code{}
	c.Sign = readList(r, api.MaxParams, r.param)
	c.Regs = readList(r, api.MaxRegs, r.typed)
	c.Slots = readList(r, api.MaxSlots, r.slot)
	c.List = readList(r, api.MaxCode, r.instruction)
	return c
}

// mark reads how bytecode begins. Bytes that are too short for it may still begin otherwise.
func (r *reader) mark() {
	if begins := r.bytes[:min(len(r.bytes), len(mark))]; !strings.HasPrefix(mark, begins) {
		panic(fault{api.ErrMark, 0})
	}
	r.take(len(mark))
}

// end reads the fingerprint of all that was read, behind which there is nothing.
func (r *reader) end() {
	start := r.at
	if r.fixed(printBytes) != Print(r.bytes[:start]) {
		panic(fault{api.ErrSum, start})
	}
	if r.at < len(r.bytes) {
		panic(fault{api.ErrBehind, r.at})
	}
}

// readList reads how many items there are, at most so many, and each of them. Room is made for those alone that the bytes have.
func readList[T any](r *reader, most int, read func() T) []T {
	var list []T
	for range r.count(most) {
		list = append(list, read())
	}
	return list
}

func (r *reader) param() api.Param {
	p := api.Param{Kind: r.small(api.KindReal, api.KindComplex)}
	p.Name = strings.Clone(r.take(r.count(api.MaxName))) // the bytes are the caller's
	p.Len = r.number()
	return p
}

func (r *reader) typed() api.Type {
	t := api.Type{Kind: r.small(api.TypeNumber, api.TypeVector)}
	if t.Kind == api.TypeVector {
		t.Param = r.number()
	}
	return t
}

func (r *reader) slot() api.Slot {
	s := api.Slot{Keep: r.small(0, 1) == 1}
	s.Type = r.typed()
	if s.Type.Kind == api.TypeWhole {
		s.Int = r.number()
	} else {
		s.Bits = r.pattern()
	}
	return s
}

func (r *reader) instruction() api.Inst {
	i := api.Inst{Op: r.small(api.OpNumber, api.OpNext)}
	for _, field := range fieldsOf(&i) {
		*field = r.number()
	}
	if i.Op == api.OpNumber {
		i.Bits = r.pattern()
	}
	return i
}

// take is the next part, of so many bytes.
func (r *reader) take(count int) string {
	if len(r.bytes)-r.at < count {
		panic(fault{api.ErrCut, r.at})
	}
	r.at += count
	return r.bytes[r.at-count : r.at]
}

// small is the next byte, which must be from low to high.
func (r *reader) small(low, high int) int {
	start := r.at
	n := int(r.take(1)[0])
	if n < low || n > high {
		panic(fault{api.ErrForm, start})
	}
	return n
}

// count is the next number, which must not be above most.
func (r *reader) count(most int) int {
	start := r.at
	n := r.number()
	if n > most {
		panic(fault{api.ErrLong, start})
	}
	return n
}

// number is the next number. A group beyond its bits is at fault whatever follows, so no more bytes are read for it.
func (r *reader) number() int {
	n := 0
	for shift, at := 0, r.at; at < len(r.bytes); shift, at = shift+7, at+1 {
		group := r.bytes[at]
		if shift == numberBits || shift > 0 && group == 0 {
			panic(fault{api.ErrForm, r.at})
		}
		n |= int(group%128) << shift
		if group < 128 {
			r.at = at + 1
			return n
		}
	}
	panic(fault{api.ErrCut, r.at})
}

// pattern is the next four bytes.
func (r *reader) pattern() api.F {
	return api.F(r.fixed(patternBytes))
}

// fixed is what so many bytes are, the lowest first.
func (r *reader) fixed(count int) uint64 {
	n := uint64(0)
	for at, b := range []byte(r.take(count)) {
		n |= uint64(b) << (8 * at)
	}
	return n
}
