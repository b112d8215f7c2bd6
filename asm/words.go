package asm

import (
	"lathe/api"
	"lathe/ir"
)

// head is the first line.
const head = "lathe 1"

// The sorts of lines behind the first one, in the order in which they stand.
const (
	paramLine = iota
	regLine
	slotLine
	instLine
)

// sortWords are the words that the lines begin with, by their sorts. Those of instructions are in opWords.
func sortWords() []string {
	return []string{paramLine: "param", regLine: "reg", slotLine: "slot"}
}

func kindWords() []string {
	return []string{api.KindReal: "real", api.KindComplex: "complex"}
}

func typeWords() []string {
	return []string{api.TypeNumber: "number", api.TypeWhole: "whole", api.TypeVector: "vector"}
}

// What is told of a slot's Keep.
const (
	isLocal = iota
	isKept
)

func keepWords() []string {
	return []string{isLocal: "local", isKept: "keep"}
}

func opWords() []string {
	return []string{
		api.OpNumber: "number", api.OpWhole: "whole", api.OpCopy: "copy",
		api.OpAdd: "add", api.OpSub: "sub", api.OpMul: "mul", api.OpDiv: "div",
		api.OpMin: "min", api.OpMax: "max", api.OpLess: "less",
		api.OpSqrt: "sqrt", api.OpNeg: "neg", api.OpAbs: "abs", api.OpFinite: "finite",
		api.OpSelect: "select", api.OpPower: "power", api.OpFrom: "from", api.OpTest: "test",
		api.OpSum: "sum", api.OpLeast: "least",
		api.OpInc: "inc", api.OpLess2: "below", api.OpSame: "same", api.OpAnd: "and", api.OpNot: "not",
		api.OpChoose: "choose", api.OpMinus: "minus", api.OpOver: "over",
		api.OpGrad: "grad", api.OpParam: "param", api.OpOut: "out", api.OpLoad: "load", api.OpStore: "store",
		api.OpWhen: "when", api.OpEnd: "end", api.OpLoop: "loop", api.OpNext: "next",
	}
}

// meanings are what the words of a list mean: their places in it.
func meanings(list []string) map[string]int {
	places := map[string]int{}
	for place, word := range list {
		if word != "" { // there is no word for that place
			places[word] = place
		}
	}
	return places
}

// registersOf are the fields of an instruction that its row names as registers, in the order D, A, B, C.
func registersOf(i *api.Inst) []*int {
	var list []*int
	if ir.Sets(*i) {
		list = append(list, &i.D)
	}
	read := [...]*int{&i.A, &i.B, &i.C} // no row names one of them without those ahead of it
	return append(list, read[:len(ir.Reads(*i))]...)
}

// hasN tells whether the row of an Op names N.
func hasN(op int) bool {
	switch op {
	case api.OpWhole, api.OpGrad, api.OpParam, api.OpOut, api.OpLoad, api.OpStore, api.OpLoop:
		return true
	}
	return false
}

// hasBits tells whether the row of an Op names Bits.
func hasBits(op int) bool { return op == api.OpNumber }
