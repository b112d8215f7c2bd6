package interp

import (
	"lathe/api"
	"lathe/float"
	"lathe/vector"
)

// number is what an instruction makes whose D is always a number.
func (f *frame) number(i *api.Inst) api.F {
	switch i.Op {
	case api.OpPower:
		return float.Power(f.numbers[i.A], f.wholes[i.B])
	case api.OpFrom:
		return float.FromInt(f.wholes[i.A])
	case api.OpSum:
		return vector.Sum(f.vectors[i.A])
	case api.OpLeast:
		return vector.Least(f.vectors[i.A])
	}
	return i.Bits // OpNumber
}

// whole is what an instruction makes whose D is always a whole number.
func (f *frame) whole(i *api.Inst) int {
	a, b := f.wholes[i.A], f.wholes[i.B] // 0 of a register that is none of whole numbers
	switch i.Op {
	case api.OpTest:
		return oneIf(isSet(f.numbers[i.A]))
	case api.OpInc:
		return min(a, api.MaxCount-1) + 1
	case api.OpLess2:
		return oneIf(a < b)
	case api.OpSame:
		return oneIf(a == b)
	case api.OpAnd:
		return oneIf(a != 0 && b != 0)
	case api.OpNot:
		return oneIf(a == 0)
	case api.OpChoose:
		return chosen(a, b, f.wholes[i.C])
	case api.OpMinus:
		return max(a-b, 0)
	case api.OpOver:
		return over(a, b)
	}
	return i.N // OpWhole
}

// isSet tells whether a number is neither a nought nor a NaN.
func isSet(a api.F) bool {
	return float.Select(a, api.One, api.Zero) == api.One
}

func oneIf(holds bool) int {
	if holds {
		return 1
	}
	return 0
}

func chosen(a, b, c int) int {
	if a != 0 {
		return b
	}
	return c
}

// over is a by b, rounded down: neither is below 0.
func over(a, b int) int {
	if b == 0 {
		return 0
	}
	return a / b
}
