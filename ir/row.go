package ir

import "lathe/api"

// A letter tells what a row asks of a field: the chapter's letters for registers, and what N or Bits are.
type letter int

const (
	nothing letter = iota // the field is 0
	number                // n
	whole                 // w
	vector                // v
	either                // d
	operand               // x, and A of OpCopy: of D's type, or a number beside a vector
	same                  // t
	pattern               // Bits
	count                 // N: a whole number
	part
	slot
	param
)

// The fields of a row. N and Bits are one: no row names both.
const (
	fieldD = iota
	fieldA
	fieldB
	fieldC
	fieldN
)

// A row is what an instruction's fields may be.
type row [5]letter

// rowOf is the row of an Op. There is none, if the Op is none.
func rowOf(op int) (row, bool) {
	switch op {
	case api.OpNumber:
		return row{fieldD: number, fieldN: pattern}, true
	case api.OpWhole:
		return row{fieldD: whole, fieldN: count}, true
	case api.OpCopy:
		return row{same, operand}, true
	case api.OpAdd, api.OpSub, api.OpMul, api.OpDiv, api.OpMin, api.OpMax, api.OpLess:
		return row{either, operand, operand}, true
	case api.OpSqrt, api.OpNeg, api.OpAbs, api.OpFinite:
		return row{either, operand}, true
	case api.OpSelect:
		return row{either, operand, operand, operand}, true
	case api.OpPower:
		return row{number, number, whole}, true
	case api.OpFrom:
		return row{number, whole}, true
	case api.OpTest:
		return row{whole, number}, true
	case api.OpSum, api.OpLeast:
		return row{number, vector}, true
	case api.OpInc, api.OpNot:
		return row{whole, whole}, true
	case api.OpLess2, api.OpSame, api.OpAnd, api.OpMinus, api.OpOver:
		return row{whole, whole, whole}, true
	case api.OpChoose:
		return row{whole, whole, whole, whole}, true
	case api.OpGrad, api.OpParam:
		return row{fieldD: vector, fieldN: part}, true
	case api.OpOut:
		return row{fieldA: vector, fieldN: part}, true
	case api.OpLoad:
		return row{fieldD: same, fieldN: slot}, true
	case api.OpStore:
		return row{fieldA: same, fieldN: slot}, true
	case api.OpWhen:
		return row{fieldA: whole}, true
	case api.OpLoop:
		return row{fieldN: param}, true
	case api.OpEnd, api.OpNext:
		return row{}, true
	}
	return row{}, false
}

// registersOf are the fields that name registers, in a row's order.
func registersOf(i *api.Inst) [4]int {
	return [4]int{i.D, i.A, i.B, i.C}
}

// readBy are the registers that an instruction of that row reads.
func readBy(r row, i *api.Inst) []int {
	var list []int
	registers := registersOf(i)
	for field := fieldA; field <= fieldC; field++ {
		if r[field] != nothing {
			list = append(list, registers[field])
		}
	}
	return list
}
