package vm

import (
	"math"

	"lathe/api"
	"lathe/bits"
	"lathe/float"
)

// Numbers are reckoned as they come, whichever NaN is among them: it is made the one NaN where it is told. The conversion behind each
// operation stands there so that its outcome is rounded by itself, and is not fused with the next one.

// value is the number that a pattern means.
func value(a api.F) float32 {
	return math.Float32frombits(uint32(a))
}

// pattern is how a number is told.
func pattern(x float32) api.F {
	return bits.Canon(api.F(math.Float32bits(x)))
}

// reckon is what an elementwise instruction makes at a place.
func (s *step) reckon(i *api.Inst, place int) float32 {
	a := s.at(i.A, place)
	switch i.Op {
	case api.OpCopy:
		return a
	case api.OpSqrt: // a root of binary64 has more than twice the bits, so that rounding it again is the same as rounding once
		return float32(math.Sqrt(float64(a)))
	case api.OpNeg:
		return -a
	case api.OpAbs:
		return float32(math.Abs(float64(a)))
	case api.OpFinite:
		return numberOf(math.Abs(float64(a)) <= math.MaxFloat32)
	}
	b := s.at(i.B, place)
	switch i.Op {
	case api.OpAdd:
		return float32(a + b)
	case api.OpSub:
		return float32(a - b)
	case api.OpMul:
		return float32(a * b)
	case api.OpDiv:
		return float32(a / b)
	case api.OpMin:
		return min(a, b)
	case api.OpMax:
		return max(a, b)
	case api.OpLess:
		return numberOf(a < b)
	}
	if isSet(a) { // OpSelect
		return b
	}
	return s.at(i.C, place)
}

// number is what an instruction makes whose D is always a number.
func (s *step) number(i *api.Inst) float32 {
	switch i.Op {
	case api.OpPower:
		return value(float.Power(pattern(s.at(i.A, 0)), s.count(i.B)))
	case api.OpFrom:
		return value(float.FromInt(s.count(i.A)))
	case api.OpSum:
		return sum(s.all(i.A))
	case api.OpLeast:
		return least(s.all(i.A))
	}
	return value(i.Bits) // OpNumber
}

// sum is that of numbers, strictly in order.
func sum(list []float32) float32 {
	total := float32(0)
	for _, x := range list {
		total = float32(total + x)
	}
	return total
}

// least is that of numbers, a NaN if one is.
func least(list []float32) float32 {
	lowest := value(api.Inf)
	for _, x := range list {
		lowest = min(lowest, x)
	}
	return lowest
}

// whole is what an instruction makes whose D is always a whole number.
func (s *step) whole(i *api.Inst) int {
	switch i.Op {
	case api.OpWhole:
		return i.N
	case api.OpTest:
		return wholeOf(isSet(s.at(i.A, 0)))
	}
	a, b := s.count(i.A), s.count(i.B) // b may be a register that the instruction does not name: it is not asked for then
	switch i.Op {
	case api.OpInc:
		return min(a, api.MaxCount-1) + 1
	case api.OpLess2:
		return wholeOf(a < b)
	case api.OpSame:
		return wholeOf(a == b)
	case api.OpAnd:
		return wholeOf(a != 0 && b != 0)
	case api.OpNot:
		return wholeOf(a == 0)
	case api.OpMinus:
		return max(a-b, 0)
	case api.OpOver:
		return over(a, b)
	}
	if a != 0 { // OpChoose
		return b
	}
	return s.count(i.C)
}

// over is a by b, rounded down: neither is below 0.
func over(a, b int) int {
	if b == 0 {
		return 0
	}
	return a / b
}

// isSet tells whether a number is neither a nought nor a NaN.
func isSet(x float32) bool { return x < 0 || x > 0 }

func numberOf(holds bool) float32 {
	if holds {
		return 1
	}
	return 0
}

func wholeOf(holds bool) int {
	if holds {
		return 1
	}
	return 0
}
