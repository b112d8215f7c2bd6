package ir

import (
	"lathe/api"
	"lathe/bits"
	"lathe/sign"
)

// faultAhead is the error of what stands ahead of a code's instructions, or of their number.
func faultAhead(c *api.Code) api.Errno {
	if e := sign.Check(c.Sign); e != api.OK {
		return e
	}
	switch {
	case len(c.Regs) > api.MaxRegs || len(c.List) > api.MaxCode:
		return api.ErrSize
	case len(c.Slots) > api.MaxSlots:
		return api.ErrSlots
	case !typesMayBe(c) || !slotsMayBe(c):
		return api.ErrCode
	}
	return api.OK
}

func typesMayBe(c *api.Code) bool {
	for _, t := range c.Regs {
		if !typeMayBe(t, c.Sign) {
			return false
		}
	}
	return true
}

func slotsMayBe(c *api.Code) bool {
	for _, s := range c.Slots {
		if !typeMayBe(s.Type, c.Sign) || !beginsWell(s) {
			return false
		}
	}
	return true
}

func typeMayBe(t api.Type, list []api.Param) bool {
	switch t.Kind {
	case api.TypeNumber, api.TypeWhole:
		return t.Param == 0
	case api.TypeVector:
		return isPlace(t.Param, len(list))
	}
	return false
}

// beginsWell tells whether a slot of a type that may be holds at the beginning what such a one may.
func beginsWell(s api.Slot) bool {
	if s.Type.Kind == api.TypeWhole {
		return s.Bits == 0 && isWhole(s.Int)
	}
	return s.Int == 0 && isTold(s.Bits)
}

// fits tells whether an instruction's fields are what its row asks for, in code whose types and slots may be.
func fits(c *api.Code, i *api.Inst, r row) bool {
	main := mainType(c, i, r)
	for field, register := range registersOf(i) {
		if !fitsRegister(c, r[field], register, main) {
			return false
		}
	}
	return fitsRest(c, i, r[fieldN], main)
}

// mainType is the type to which the others of a row are held: of D, or of A in a row without D. It is the zero type, which no
// register has, if there is no such register.
func mainType(c *api.Code, i *api.Inst, r row) api.Type {
	register := i.D
	if r[fieldD] == nothing {
		register = i.A
	}
	if !isPlace(register, len(c.Regs)) {
		return api.Type{}
	}
	return c.Regs[register]
}

// fitsRegister tells whether a field is what a letter asks for.
func fitsRegister(c *api.Code, l letter, register int, main api.Type) bool {
	if l == nothing {
		return register == 0
	}
	return isPlace(register, len(c.Regs)) && l.means(c.Regs[register], main)
}

// means tells whether a register of that type is one that the letter stands for.
func (l letter) means(t, main api.Type) bool {
	switch l {
	case number:
		return t.Kind == api.TypeNumber
	case whole:
		return t.Kind == api.TypeWhole
	case vector:
		return t.Kind == api.TypeVector
	case either:
		return t.Kind == api.TypeNumber || t.Kind == api.TypeVector
	case operand:
		return t == main || t.Kind == api.TypeNumber && main.Kind == api.TypeVector
	}
	return t == main // same
}

// fitsRest tells whether N and Bits are what a letter asks for.
func fitsRest(c *api.Code, i *api.Inst, l letter, main api.Type) bool {
	if l == pattern {
		return i.N == 0 && isTold(i.Bits)
	}
	return i.Bits == 0 && fitsN(c, i.N, l, main)
}

func fitsN(c *api.Code, n int, l letter, main api.Type) bool {
	switch l {
	case count:
		return isWhole(n)
	case part:
		return n == 0 || n == 1 && c.Sign[main.Param].Kind == api.KindComplex
	case slot:
		return isPlace(n, len(c.Slots)) && c.Slots[n].Type == main
	case param:
		return isPlace(n, len(c.Sign))
	}
	return n == 0
}

// isPlace tells whether a list of that length has such a place.
func isPlace(n, length int) bool { return 0 <= n && n < length }

func isWhole(n int) bool { return 0 <= n && n <= api.MaxCount }

// isTold tells whether a pattern is no NaN but the one.
func isTold(a api.F) bool { return bits.Canon(a) == a }
