package verify

import (
	"lathe/api"
	"lathe/measure"
)

// What follows asks well formed code alone, as measure does.

// costOf is the cost of all instructions, each once.
func costOf(c *api.Code) int {
	cost := 0
	for at := range c.List {
		cost += measure.Cost(c, &c.List[at])
	}
	return cost
}

// roomOf is how much all registers and slots hold.
func roomOf(c *api.Code) int {
	room := 0
	for _, t := range c.Regs {
		room += measure.Width(c, t)
	}
	for _, s := range c.Slots {
		room += measure.Width(c, s.Type)
	}
	return room
}
