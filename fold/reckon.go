package fold

import (
	"lathe/api"
	"lathe/float"
	"lathe/ir"
)

// reckoned is what an instruction makes, if that hangs on constant registers alone.
func (s *survey) reckoned(i *api.Inst) (value, bool) {
	if !s.mayBeReckoned(i) {
		return value{}, false
	}
	if register, isChosen := s.chosen(i); isChosen {
		v, isKnown := s.known[register]
		return v, isKnown
	}
	var args [3]value
	for n, register := range ir.Reads(*i) {
		v, isKnown := s.known[register]
		if !isKnown {
			return value{}, false
		}
		args[n] = v
	}
	if s.code.Regs[i.D].Kind == api.TypeWhole {
		return value{whole: wholeOf(i, args)}, true
	}
	return value{bits: numberOf(i, args)}, true
}

// mayBeReckoned tells whether an instruction makes one number, or one whole number, out of such. (A copy of a whole number is left: the
// document names those of numbers alone.)
func (s *survey) mayBeReckoned(i *api.Inst) bool {
	if ir.Elementwise(i.Op) {
		return s.code.Regs[i.D].Kind == api.TypeNumber
	}
	switch i.Op {
	case api.OpNumber, api.OpWhole, api.OpPower, api.OpFrom, api.OpTest:
		return true
	}
	return i.Op >= api.OpInc && i.Op <= api.OpOver
}

// chosen is the register that an OpSelect or OpChoose takes, if it is always the same one.
func (s *survey) chosen(i *api.Inst) (int, bool) {
	if i.Op != api.OpSelect && i.Op != api.OpChoose {
		return 0, false
	}
	a, isKnown := s.known[i.A]
	switch {
	case !isKnown:
		return 0, false
	case a.whole != 0 || isTrue(a.bits):
		return i.B, true
	}
	return i.C, true
}

// isTrue tells whether a number is neither a nought nor a NaN.
func isTrue(a api.F) bool {
	return float.Select(a, api.One, api.Zero) == api.One
}

// numberOf is what an instruction makes whose D is a number. An OpSelect is not among them: it takes one of its own.
func numberOf(i *api.Inst, args [3]value) api.F {
	a, b := args[0].bits, args[1].bits
	switch i.Op {
	case api.OpCopy:
		return a
	case api.OpAdd:
		return float.Add(a, b)
	case api.OpSub:
		return float.Sub(a, b)
	case api.OpMul:
		return float.Mul(a, b)
	case api.OpDiv:
		return float.Div(a, b)
	case api.OpMin:
		return float.Min(a, b)
	case api.OpMax:
		return float.Max(a, b)
	case api.OpLess:
		return onlyIf(float.Less(a, b), api.One)
	case api.OpSqrt:
		return float.Sqrt(a)
	case api.OpNeg:
		return float.Neg(a)
	case api.OpAbs:
		return float.Abs(a)
	case api.OpFinite:
		return onlyIf(float.Finite(a), api.One)
	case api.OpPower:
		return float.Power(a, args[1].whole)
	case api.OpFrom:
		return float.FromInt(args[0].whole)
	}
	return i.Bits // OpNumber
}

// wholeOf is what an instruction makes whose D is a whole number. An OpChoose is not among them: it takes one of its own.
func wholeOf(i *api.Inst, args [3]value) int {
	a, b := args[0].whole, args[1].whole
	switch i.Op {
	case api.OpTest:
		return onlyIf(isTrue(args[0].bits), 1)
	case api.OpInc:
		return min(a, api.MaxCount-1) + 1
	case api.OpLess2:
		return onlyIf(a < b, 1)
	case api.OpSame:
		return onlyIf(a == b, 1)
	case api.OpAnd:
		return onlyIf(a != 0 && b != 0, 1)
	case api.OpNot:
		return onlyIf(a == 0, 1)
	case api.OpMinus:
		return max(a-b, 0)
	case api.OpOver:
		return over(a, b)
	}
	return i.N // OpWhole
}

// onlyIf is n where something holds, else 0.
func onlyIf[T api.F | int](holds bool, n T) T {
	if holds {
		return n
	}
	return 0
}

// over is a by b, rounded down: neither is below 0.
func over(a, b int) int {
	if b == 0 {
		return 0
	}
	return a / b
}
