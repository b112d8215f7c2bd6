package fold

import "lathe/api"

// folded are the instructions that are left, with what is known of them written down.
func (s *survey) folded() []api.Inst {
	var list []api.Inst
	for at := range s.code.List {
		if s.gone[at] {
			continue
		}
		i := s.written(at)
		if i.Op == api.OpEnd && list[len(list)-1].Op == api.OpWhen { // an empty block; one around it may be empty then
			list = list[:len(list)-1]
			continue
		}
		list = append(list, i)
	}
	return list
}

// written is an instruction, or what stands in its place.
func (s *survey) written(at int) api.Inst {
	i := s.code.List[at]
	if v, isMade := s.made[at]; isMade {
		return s.constant(i.D, v)
	}
	register, isCopy := s.chosen(&i)
	if !isCopy {
		register, isCopy = s.handedOn(&i)
	}
	if isCopy {
		return api.Inst{Op: api.OpCopy, D: i.D, A: register}
	}
	return i
}

// constant is the instruction that makes a register hold a value.
func (s *survey) constant(register int, v value) api.Inst {
	if s.code.Regs[register].Kind == api.TypeWhole {
		return api.Inst{Op: api.OpWhole, D: register, N: v.whole}
	}
	return api.Inst{Op: api.OpNumber, D: register, Bits: v.bits}
}

// handedOn is the register that an instruction hands on as it is, at all patterns: the one beside a constant that changes nothing.
func (s *survey) handedOn(i *api.Inst) (int, bool) {
	a, eitherSide, has := neutral(i.Op)
	switch {
	case !has:
		return 0, false
	case s.isNumber(i.B, a) && s.hasTypeOf(i.A, i.D):
		return i.A, true
	case eitherSide && s.isNumber(i.A, a) && s.hasTypeOf(i.B, i.D):
		return i.B, true
	}
	return 0, false
}

// isNumber tells whether a register of an elementwise instruction is constant and holds that number.
func (s *survey) isNumber(register int, a api.F) bool {
	v, isKnown := s.known[register]
	return isKnown && v.bits == a
}

func (s *survey) hasTypeOf(register, other int) bool {
	return s.code.Regs[register] == s.code.Regs[other]
}

// neutral is the number that changes nothing as B, and whether it does so as A too. +0 is none of OpAdd: it would change -0.
func neutral(op int) (a api.F, eitherSide bool, has bool) {
	switch op {
	case api.OpMul:
		return api.One, true, true
	case api.OpDiv:
		return api.One, false, true
	case api.OpAdd:
		return api.Minus, true, true
	case api.OpSub:
		return api.Zero, false, true
	}
	return 0, false, false
}
