package samples

import (
	"slices"

	"lathe/api"
)

// LoopOf is the parameter of an instruction that may be looped, by the words of the chapters: elementwise with a vector as its D, or OpGrad,
// OpParam, OpOut, OpLoad, OpStore of a vector; -1 of any other.
func LoopOf(c api.Code, i api.Inst) int {
	register := -1
	switch {
	case i.Op >= 3 && i.Op <= 15, i.Op == 29, i.Op == 30, i.Op == 32:
		register = i.D
	case i.Op == 31, i.Op == 33:
		register = i.A
	}
	if register < 0 || c.Regs[register].Kind != 3 {
		return -1
	}
	return c.Regs[register].Param
}

// LooseAt is the place of the first instruction that is loose; -1, if none is.
func LooseAt(c api.Code) int {
	isLooped := false
	for at, i := range c.List {
		switch {
		case i.Op == 36:
			isLooped = true
		case i.Op == 37:
			isLooped = false
		case !isLooped && LoopOf(c, i) >= 0:
			return at
		}
	}
	return -1
}

// NeighboursAt is the place between the first two loops that are neighbours; -1, if none are.
func NeighboursAt(c api.Code) int {
	param := -1 // of the loop that is open, or was the last one
	for at, i := range c.List {
		if i.Op != 36 {
			continue
		}
		if at > 0 && c.List[at-1].Op == 37 && param == i.N {
			return at
		}
		param = i.N
	}
	return -1
}

// Bare is a code's instructions but for OpLoop and OpNext.
func Bare(c api.Code) []api.Inst {
	return slices.DeleteFunc(slices.Clone(c.List), func(i api.Inst) bool { return i.Op == 36 || i.Op == 37 })
}

// Deeper is how many more blocks of OpWhen are open behind an instruction.
func Deeper(i api.Inst) int {
	switch i.Op {
	case 34:
		return 1
	case 35:
		return -1
	}
	return 0
}

// Looped is the code with loops of its own, from all over: around some of what may be looped, alone or beside others, and around nothing.
func (g *Grower) Looped(c api.Code) api.Code {
	d := CloneCode(c)
	d.List = nil
	open, depth := -1, 0
	leave := func() {
		if open >= 0 {
			d.List = append(d.List, api.Inst{Op: 37})
		}
		open = -1
	}
	for _, i := range Bare(c) {
		param := LoopOf(c, i)
		if param != open || g.Below(4) == 0 {
			leave()
		}
		if open < 0 && param >= 0 && depth < api.MaxNest && g.Below(3) > 0 {
			d.List = append(d.List, api.Inst{Op: 36, N: param})
			open = param
		}
		d.List = append(d.List, i)
		depth += Deeper(i)
		if open < 0 && depth < api.MaxNest && len(c.Sign) > 0 && g.Below(12) == 0 {
			d.List = append(d.List, api.Inst{Op: 36, N: g.Below(len(c.Sign))}, api.Inst{Op: 37})
		}
	}
	leave()
	return d
}
