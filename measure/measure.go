// Package measure tells how much a register or a slot holds, and what an instruction costs: the words of chapter 26, which both verify and
// the machine go by. It asks well formed code alone: each register, slot and parameter that it names is there.
package measure

import (
	"lathe/api"
	"lathe/ir"
)

// powerCost is what an OpPower costs: a whole number has at most 31 bits, and each of them takes at most two products.
const powerCost = 62

// Cost is what an instruction of the code costs, in a loop for all elements together.
func Cost(c *api.Code, i *api.Inst) int {
	if ir.Elementwise(i.Op) {
		return Width(c, c.Regs[i.D])
	}
	switch i.Op {
	case api.OpPower:
		return powerCost
	case api.OpGrad, api.OpParam, api.OpLoad:
		return Width(c, c.Regs[i.D])
	case api.OpOut, api.OpStore, api.OpSum, api.OpLeast:
		return Width(c, c.Regs[i.A])
	}
	return 1
}

// Width is how much a register or a slot of that type holds. An element of a complex parameter is one: a vector holds one part of it.
func Width(c *api.Code, t api.Type) int {
	if t.Kind == api.TypeVector {
		return c.Sign[t.Param].Len
	}
	return 1
}
