package samples

import (
	"slices"
	"strconv"

	"lathe/api"
)

// Roomy is the list in memory of its own, with something in the spare room behind it.
func Roomy[T any](list []T, room ...T) []T {
	return append(slices.Clone(list), room...)[:len(list)]
}

// RoomyCode is the code in memory of its own, with something in the spare room behind each list.
func RoomyCode(c api.Code) api.Code {
	return api.Code{
		Sign: Roomy(c.Sign, api.Param{Name: "w", Kind: 9}), Regs: Roomy(c.Regs, api.Type{Kind: 9}, api.Type{Kind: 1}),
		Slots: Roomy(c.Slots, api.Slot{Int: -1}), List: Roomy(c.List, api.Inst{Op: 99}, api.Inst{Op: api.OpEnd}),
	}
}

// CloneCode is the code in memory of its own.
func CloneCode(c api.Code) api.Code {
	return api.Code{Sign: slices.Clone(c.Sign), Regs: slices.Clone(c.Regs), Slots: slices.Clone(c.Slots), List: slices.Clone(c.List)}
}

// OpenedCode is a clone of the code in which what stands in the spare room behind each list belongs to it.
func OpenedCode(c api.Code) api.Code {
	return CloneCode(api.Code{Sign: c.Sign[:cap(c.Sign)], Regs: c.Regs[:cap(c.Regs)], Slots: c.Slots[:cap(c.Slots)], List: c.List[:cap(c.List)]})
}

// RuinCode writes over all that a code has, spare room too.
func RuinCode(c api.Code) {
	Ruin(c.Sign, api.Param{Name: "ruin", Kind: 9, Len: -1})
	Ruin(c.Regs, api.Type{Kind: 77, Param: 77})
	Ruin(c.Slots, api.Slot{Bits: 0xdeadbeef, Int: -7})
	Ruin(c.List, api.Inst{Op: -7, D: -7, A: -7, B: -7, C: -7, N: -7, Bits: 0xdeadbeef})
}

// Ruin writes over a list, its spare room too.
func Ruin[T any](list []T, by T) {
	list = list[:cap(list)]
	for i := range list {
		list[i] = by
	}
}

// RoomyVectors are vectors in memory of their own, with something in the spare room behind each.
func RoomyVectors(list [][]api.F) [][]api.F {
	out := Roomy(list, []api.F{7})
	for n := range out {
		out[n] = Roomy(out[n], 7, 0x7fc00000)
	}
	return out
}

// OpenedVectors are vectors as a text, their spare room too.
func OpenedVectors(list [][]api.F) string {
	var text []byte
	for _, v := range list[:cap(list)] {
		text = append(text, '[')
		for _, a := range v[:cap(v)] {
			text = append(strconv.AppendUint(text, uint64(a), 16), ' ')
		}
	}
	return string(text)
}

// RuinVectors writes over vectors, their spare room too.
func RuinVectors(list [][]api.F) {
	for n := range list {
		Ruin(list[n], 0xdeadbeef)
	}
	Ruin(list, nil)
}
