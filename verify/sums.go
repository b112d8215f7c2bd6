package verify

import (
	"lathe/api"
	"lathe/ir"
)

// powerCost is what an OpPower costs: a whole number has at most 31 bits, and each of them takes at most two products.
const powerCost = 62

// What follows asks well formed code alone: each register, slot and parameter that it names is there.

// costOf is the cost of all instructions, each once.
func costOf(c *api.Code) int {
	cost := 0
	for at := range c.List {
		cost += weigh(c, &c.List[at])
	}
	return cost
}

// weigh is what an instruction costs.
func weigh(c *api.Code, i *api.Inst) int {
	if ir.Elementwise(i.Op) {
		return width(c, c.Regs[i.D])
	}
	switch i.Op {
	case api.OpPower:
		return powerCost
	case api.OpGrad, api.OpParam, api.OpLoad:
		return width(c, c.Regs[i.D])
	case api.OpOut, api.OpStore, api.OpSum, api.OpLeast:
		return width(c, c.Regs[i.A])
	}
	return 1
}

// roomOf is how much all registers and slots hold.
func roomOf(c *api.Code) int {
	room := 0
	for _, t := range c.Regs {
		room += width(c, t)
	}
	for _, s := range c.Slots {
		room += width(c, s.Type)
	}
	return room
}

// width is how much a register or a slot of that type holds. An element of a complex parameter is one: a vector holds one part of it.
func width(c *api.Code, t api.Type) int {
	if t.Kind == api.TypeVector {
		return c.Sign[t.Param].Len
	}
	return 1
}
