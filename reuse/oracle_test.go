package reuse

import (
	"slices"
	"strconv"

	"lathe/api"
	"lathe/ir"
	"lathe/samples"
)

// blocksOf are for each instruction the places of the OpWhens of the blocks in which it stands. A block's marks stand outside of it.
func blocksOf(c api.Code) [][]int {
	var open []int
	list := make([][]int, len(c.List))
	for at, i := range c.List {
		if i.Op == 35 {
			open = open[:len(open)-1]
		}
		list[at] = slices.Clone(open)
		if i.Op == 34 {
			open = append(open, at)
		}
	}
	return list
}

// isAbove tells whether the instruction at a stands above the one at b, by the chapter's words.
func isAbove(blocks [][]int, a, b int) bool {
	for _, block := range blocks[a] {
		if !slices.Contains(blocks[b], block) {
			return false
		}
	}
	return a < b
}

// mayBeTwin tells whether an instruction is of an Op that has twins, by the chapter's words.
func mayBeTwin(i api.Inst) bool { return ir.Sets(i) && i.Op != 32 && i.Op != 3 }

// areTwins tells whether two of those are twins, by the chapter's words.
func areTwins(c api.Code, i, j *api.Inst) bool {
	return i.Op == j.Op && i.A == j.A && i.B == j.B && i.C == j.C && i.N == j.N && i.Bits == j.Bits && c.Regs[i.D] == c.Regs[j.D]
}

func isPlainCopy(c api.Code, i api.Inst) bool {
	return i.Op == 3 && c.Regs[i.A] == c.Regs[i.D]
}

// firstTwins are the places of the first instruction below which a twin stands, and of its first twin there; false, if there is none.
func firstTwins(c api.Code) (int, int, bool) {
	blocks := blocksOf(c)
	byOp := map[int][]int{}
	for at, i := range c.List {
		if !mayBeTwin(i) {
			continue
		}
		for _, ahead := range byOp[i.Op] {
			if areTwins(c, &c.List[ahead], &i) && isAbove(blocks, ahead, at) {
				return ahead, at, true
			}
		}
		byOp[i.Op] = append(byOp[i.Op], at)
	}
	return 0, 0, false
}

// leftToReuse is what RE3 does not let stand in what comes of single code, by the chapter's words; empty, if there is nothing.
func leftToReuse(c api.Code) string {
	for at, i := range c.List {
		if isPlainCopy(c, i) {
			return "a copy at " + strconv.Itoa(at)
		}
	}
	if first, twin, has := firstTwins(c); has {
		return "twins at " + strconv.Itoa(first) + " and " + strconv.Itoa(twin)
	}
	return ""
}

// slowly is what becomes of single code, if one copy or one twin after the other is taken away, and the register that it set is read no
// longer, until there is none.
func slowly(c api.Code) api.Code {
	c = samples.CloneCode(c)
	for {
		at := slices.IndexFunc(c.List, func(i api.Inst) bool { return isPlainCopy(c, i) })
		if at >= 0 {
			takeAway(&c, at, c.List[at].A)
			continue
		}
		first, twin, has := firstTwins(c)
		if !has {
			return c
		}
		takeAway(&c, twin, c.List[first].D)
	}
}

// takeAway leaves out an instruction; another register is read instead of the one that it set.
func takeAway(c *api.Code, at, register int) {
	gone := c.List[at].D
	c.List = slices.Delete(c.List, at, at+1)
	for n := range c.List {
		i := &c.List[n]
		for field, by := range ir.Reads(*i) {
			if by == gone {
				*samples.Field(i, "ABC"[field]) = register
			}
		}
	}
}

// A thicket is code on its way that has many twins and copies: what the given code has, in its order, and others between.
type thicket struct {
	*samples.Grower
	code  api.Code // its list is the one that grows
	given []api.Inst
	fresh bool    // others set new registers alone
	same  [][]int // by register: others that are to hold the same
	isSet []bool
	set   []int // as they were set
	open  []int // by open block of OpWhen: how many were set ahead of it
	loop  int   // the parameter of the loop that is open; -1, if none is
}

// thick is the code grown so; it is single, if the code is.
func thick(g *samples.Grower, c api.Code) api.Code {
	c = samples.CloneCode(c)
	t := &thicket{Grower: g, given: c.List, fresh: samples.IsSingle(c), loop: -1}
	c.List = nil
	t.code = c
	t.same, t.isSet = make([][]int, len(c.Regs)), make([]bool, len(c.Regs))
	for _, i := range t.given {
		for range t.Below(3) {
			t.another()
		}
		t.put(t.exchanged(i))
	}
	return t.code
}

// put goes on behind an instruction.
func (t *thicket) put(i api.Inst) {
	t.code.List = append(t.code.List, i)
	if ir.Sets(i) && !t.isSet[i.D] {
		t.isSet[i.D] = true
		t.set = append(t.set, i.D)
	}
	switch i.Op {
	case api.OpWhen:
		t.open = append(t.open, len(t.set))
	case api.OpLoop:
		t.loop = i.N
	case api.OpNext:
		t.loop = -1
	case api.OpEnd:
		last := len(t.open) - 1
		for _, register := range t.set[t.open[last]:] {
			t.isSet[register] = false
		}
		t.set, t.open = t.set[:t.open[last]], t.open[:last]
	}
}

// exchanged is the instruction that reads others that are to hold the same, where they are set.
func (t *thicket) exchanged(i api.Inst) api.Inst {
	for field, register := range ir.Reads(i) {
		if others := t.same[register]; len(others) > 0 {
			if other := others[t.Below(len(others))]; t.isSet[other] && t.Below(4) > 0 {
				*samples.Field(&i, "ABC"[field]) = other
			}
		}
	}
	return i
}

// another puts a twin of some instruction there, or a copy of some register, if one can stand there.
func (t *thicket) another() {
	if len(t.set) == 0 || len(t.code.List) == 0 {
		return
	}
	i := t.code.List[t.Below(len(t.code.List))]
	if t.Below(3) == 0 {
		i = api.Inst{Op: api.OpCopy, A: t.set[t.Below(len(t.set))]}
		i.D = i.A
	}
	if !ir.Sets(i) || !t.mayStand(i) {
		return
	}
	i = t.exchanged(i)
	first := i.D
	i.D = t.target(first)
	if i.D < 0 {
		return
	}
	t.same[first] = append(t.same[first], i.D)
	t.same[i.D] = append(t.same[i.D], first)
	t.put(i)
}

// mayStand tells whether an instruction that stands elsewhere may stand here too.
func (t *thicket) mayStand(i api.Inst) bool {
	if slices.ContainsFunc(ir.Reads(i), func(register int) bool { return !t.isSet[register] }) {
		return false
	}
	if t.loop < 0 {
		return true
	}
	isLooped := ir.Elementwise(i.Op) || i.Op == api.OpGrad || i.Op == api.OpParam || i.Op == api.OpLoad
	return isLooped && t.code.Regs[i.D] == api.Type{Kind: 3, Param: t.loop}
}

// target is a register of the type of another one: a new one, or, if that is wanted, any; -1, if there is no room.
func (t *thicket) target(register int) int {
	if !t.fresh && t.Below(4) > 0 {
		var list []int
		for other, is := range t.code.Regs {
			if is == t.code.Regs[register] {
				list = append(list, other)
			}
		}
		return list[t.Below(len(list))]
	}
	if len(t.code.Regs) == maxRegs {
		return -1
	}
	t.code.Regs = append(t.code.Regs, t.code.Regs[register])
	t.same, t.isSet = append(t.same, nil), append(t.isSet, false)
	return len(t.code.Regs) - 1
}
