package fold

import (
	"slices"
	"strconv"

	"lathe/api"
	"lathe/ir"
	"lathe/samples"
)

// constantsOf are the constant registers by the chapter's words, each with an instruction that sets it.
func constantsOf(c api.Code) map[int]api.Inst {
	setters := map[int][]api.Inst{}
	for _, i := range c.List {
		if ir.Sets(i) {
			setters[i.D] = append(setters[i.D], i)
		}
	}
	constants := map[int]api.Inst{}
	for register, list := range setters {
		first := list[0]
		isOther := func(i api.Inst) bool { return i.Op != first.Op || i.Bits != first.Bits || i.N != first.N }
		if (first.Op == api.OpNumber || first.Op == api.OpWhole) && !slices.ContainsFunc(list, isOther) {
			constants[register] = first
		}
	}
	return constants
}

// leftToFold is what FO3 does not let stand, by the chapter's words; empty, if there is nothing.
func leftToFold(c api.Code) string {
	constants := constantsOf(c)
	for at, i := range c.List {
		rule := ""
		switch {
		case isReckonable(c, i) && readsAlone(constants, i):
			rule = "1"
		case isLedByConstant(constants, i):
			rule = "2"
		case isIdentity(c, constants, i):
			rule = "3"
		case i.Op == api.OpWhen && c.List[at+1].Op == api.OpEnd:
			rule = "4"
		}
		if rule != "" {
			return "FO3." + rule + " at " + strconv.Itoa(at)
		}
	}
	return ""
}

// isReckonable tells whether an instruction is one of those that FO3's first rule speaks of.
func isReckonable(c api.Code, i api.Inst) bool {
	switch {
	case i.Op >= 3 && i.Op <= 15:
		return c.Regs[i.D].Kind == 1
	case i.Op >= 16 && i.Op <= 18:
		return true
	}
	return i.Op >= 21 && i.Op <= 28
}

// readsAlone tells whether all that an instruction reads is constant.
func readsAlone(constants map[int]api.Inst, i api.Inst) bool {
	return !slices.ContainsFunc(ir.Reads(i), func(register int) bool {
		_, isConstant := constants[register]
		return !isConstant
	})
}

// isLedByConstant tells whether an instruction is one of FO3's second rule.
func isLedByConstant(constants map[int]api.Inst, i api.Inst) bool {
	_, isConstant := constants[i.A]
	return isConstant && (i.Op == 15 || i.Op == 26 || i.Op == 34)
}

// isIdentity tells whether an instruction is one of FO3's third rule.
func isIdentity(c api.Code, constants map[int]api.Inst, i api.Inst) bool {
	is := func(register int, bits api.F) bool {
		by, isConstant := constants[register]
		return isConstant && by.Op == 1 && by.Bits == bits
	}
	ofD := func(register int) bool { return c.Regs[register] == c.Regs[i.D] }
	switch i.Op {
	case 6:
		return is(i.A, 0x3f800000) && ofD(i.B) || is(i.B, 0x3f800000) && ofD(i.A)
	case 7:
		return is(i.B, 0x3f800000) && ofD(i.A)
	case 4:
		return is(i.A, 0x80000000) && ofD(i.B) || is(i.B, 0x80000000) && ofD(i.A)
	case 5:
		return is(i.B, 0) && ofD(i.A)
	}
	return false
}

// strange is what FO4 does not let happen, as far as it can be told from the codes alone; empty, if there is nothing. Whatever is there
// behind folding stands there ahead of it, in the same order, or is an OpNumber, OpWhole or OpCopy in the place of another; what no rule
// speaks of is left out with a block alone.
func strange(c, d api.Code) string {
	from := 0
	for at, i := range d.List {
		by := func(j api.Inst) bool { return j == i || i.Op <= 3 && ir.Sets(j) && j.D == i.D }
		next := slices.IndexFunc(c.List[from:], by)
		if next < 0 {
			return "at " + strconv.Itoa(at)
		}
		from += next + 1
	}
	if !slices.Equal(d.Regs, c.Regs) {
		return "the registers"
	}
	if !hasBlocks(c) && len(d.List) != len(c.List) {
		return "an instruction is left out"
	}
	return ""
}

func hasBlocks(c api.Code) bool {
	return slices.ContainsFunc(c.List, func(i api.Inst) bool { return i.Op == 34 })
}

// rich is the code with more constants in it: of some registers all that sets them makes them alike, of some only a few do.
func rich(g *samples.Grower, c api.Code) api.Code {
	c = samples.CloneCode(c)
	shares := []int{0, 1, 8, 8}
	moods := make([]int, len(c.Regs))
	for register := range moods {
		moods[register] = shares[g.Below(len(shares))]
	}
	for at, i := range c.List {
		if !ir.Sets(i) || c.Regs[i.D].Kind == 3 || i.Op > 2 && g.Below(8) >= moods[i.D] {
			continue
		}
		which := i.D
		if g.Below(12) == 0 {
			which = g.Below(100)
		}
		c.List[at] = constant(c.Regs[i.D].Kind, i.D, which)
	}
	return c
}

// constant makes a register hold one of some values.
func constant(kind, register, which int) api.Inst {
	if kind == 1 {
		return api.Inst{Op: 1, D: register, Bits: []api.F{one, 0, minus, one, nan, minus, 0, inf, two, 0xbf800000, 1}[which%11]}
	}
	return api.Inst{Op: 2, D: register, N: []int{1, 0, 2, 0, 1, maxCount}[which%6]}
}
