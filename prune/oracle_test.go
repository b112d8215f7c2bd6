package prune

import (
	"slices"

	"lathe/api"
	"lathe/ir"
	"lathe/samples"
)

// blocksOf are the places of the two marks of each block.
func blocksOf(c api.Code) [][2]int {
	var open []int
	var blocks [][2]int
	for at, i := range c.List {
		switch i.Op {
		case 34, 36:
			open = append(open, at)
		case 35, 37:
			blocks = append(blocks, [2]int{open[len(open)-1], at})
			open = open[:len(open)-1]
		}
	}
	return blocks
}

// neededByWords are the needed instructions, in order, by the chapter's words: what they make needed is put to them, until there is
// nothing more.
func neededByWords(c api.Code) []api.Inst {
	isNeeded := make([]bool, len(c.List))
	blocks := blocksOf(c)
	for count, before := 0, -1; count > before; {
		before = count
		for at, i := range c.List {
			if i.Op == 31 || isNeededFor(c, isNeeded, blocks, at) {
				isNeeded[at] = true
			}
		}
		count = 0
		for _, is := range isNeeded {
			if is {
				count++
			}
		}
	}
	var list []api.Inst
	for at, i := range c.List {
		if isNeeded[at] {
			list = append(list, i)
		}
	}
	return list
}

// isNeededFor tells whether one of those that are needed makes the one at a place needed.
func isNeededFor(c api.Code, isNeeded []bool, blocks [][2]int, at int) bool {
	i := c.List[at]
	for other, j := range c.List {
		if !isNeeded[other] {
			continue
		}
		if ir.Sets(i) && slices.Contains(ir.Reads(j), i.D) || i.Op == 33 && j.Op == 32 && i.N == j.N {
			return true
		}
		for _, block := range blocks {
			if (block[0] == at || block[1] == at) && block[0] < other && other < block[1] {
				return true
			}
		}
	}
	return false
}

// numberedByWords is the code with instructions of its own, the registers that one of these reads or sets, and the slots that one of
// these loads or stores, numbered anew, by the chapter's words.
func numberedByWords(c api.Code, list []api.Inst) api.Code {
	d := api.Code{Sign: slices.Clone(c.Sign), List: slices.Clone(list)}
	for register, is := range c.Regs {
		if !worksOnRegister(list, register) {
			continue
		}
		for n, i := range list {
			if ir.Sets(i) && i.D == register {
				d.List[n].D = len(d.Regs)
			}
			for field, by := range ir.Reads(i) {
				if by == register {
					*samples.Field(&d.List[n], "ABC"[field]) = len(d.Regs)
				}
			}
		}
		d.Regs = append(d.Regs, is)
	}
	for slot, is := range c.Slots {
		if !worksOnSlot(list, slot) {
			continue
		}
		for n, i := range list {
			if (i.Op == 32 || i.Op == 33) && i.N == slot {
				d.List[n].N = len(d.Slots)
			}
		}
		d.Slots = append(d.Slots, is)
	}
	return d
}

func worksOnRegister(list []api.Inst, register int) bool {
	return slices.ContainsFunc(list, func(i api.Inst) bool { return ir.Sets(i) && i.D == register || slices.Contains(ir.Reads(i), register) })
}

func worksOnSlot(list []api.Inst, slot int) bool {
	return slices.ContainsFunc(list, func(i api.Inst) bool { return (i.Op == 32 || i.Op == 33) && i.N == slot })
}

// quiet is the code without some of its OpOuts, so that less of it is needed.
func quiet(g *samples.Grower, c api.Code) api.Code {
	c = samples.CloneCode(c)
	c.List = slices.DeleteFunc(c.List, func(i api.Inst) bool { return i.Op == 31 && g.Below(2) > 0 })
	return c
}
