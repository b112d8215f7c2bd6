package ir

import (
	"slices"
	"testing"

	"lathe/api"
	"lathe/samples"
)

// endOf is the place of the mark that ends the block that begins at a place.
func endOf(list []api.Inst, begin int) int {
	depth := 0
	for at := begin; ; at++ {
		switch list[at].Op {
		case api.OpWhen, api.OpLoop:
			depth++
		case api.OpEnd, api.OpNext:
			depth--
		}
		if depth == 0 {
			return at
		}
	}
}

// goThrough goes one way through the code: of the blocks of OpWhen those are done that the bits of done name. It is the place of the
// first instruction that reads what was not set ahead of it, or the number of instructions.
func goThrough(list []api.Inst, done int) int {
	set := map[int]int{}
	block := map[int]int{}
	for at, i := range list {
		if i.Op == api.OpWhen {
			block[at] = len(block)
		}
	}
	for at := 0; at < len(list); at++ {
		for _, register := range wantReads(list[at]) {
			if set[register] == 0 {
				return at
			}
		}
		if wantSets(list[at]) {
			set[list[at].D]++
		}
		if list[at].Op == api.OpWhen && done>>block[at]&1 == 0 {
			at = endOf(list, at)
		}
	}
	return len(list)
}

// firstUnset is the least of those places in all ways through the code.
func firstUnset(list []api.Inst) int {
	least := len(list)
	blocks := 0
	for _, i := range list {
		if i.Op == api.OpWhen {
			blocks++
		}
	}
	for done := range 1 << blocks {
		least = min(least, goThrough(list, done))
	}
	return least
}

// fewBlocks tells whether all ways through a code can be gone.
func fewBlocks(c api.Code) bool {
	count := 0
	for _, i := range c.List {
		if i.Op == api.OpWhen {
			count++
		}
	}
	return count <= 7
}

// standsWell tells whether all instructions fit their rows and stand where they may, with no block open at the end.
func standsWell(c api.Code) bool {
	for at := range c.List {
		if !wantFits(c, c.List[at]) || !wantStands(c, at) {
			return false
		}
	}
	return len(openAt(c.List)) == 0
}

// TestWays: IR3, a code whose instructions fit their rows is taken just if in every way through it all that is read was set; else the
// place is the first one at which there is a way on which it was not.
func TestWays(t *testing.T) {
	g := &grower{samples.Source(163)}
	taken, refused := 0, 0
	for range 15000 {
		c := g.code(30)
		for range g.below(4) {
			g.unset(&c)
		}
		if !fewBlocks(c) || !standsWell(c) || wantAhead(c) != api.OK {
			continue
		}
		at := firstUnset(c.List)
		if at == len(c.List) {
			taken++
			holdCheck(t, c, api.OK, 0)
		} else {
			refused++
			holdCheck(t, c, errCode, at)
		}
		if t.Failed() {
			return
		}
	}
	if taken < 2500 || refused < 2500 {
		t.Errorf("%d codes were taken, %d refused", taken, refused)
	}
}

// unset leaves out an instruction that sets a register, or puts a pair of marks about some.
func (g *grower) unset(c *api.Code) {
	whole := slices.Index(c.Regs, wholeType())
	switch at := g.below(len(c.List)); {
	case len(c.List) == 0:
		return
	case g.below(2) == 0 && wantSets(c.List[at]):
		c.List = slices.Delete(c.List, at, at+1)
	case whole >= 0:
		behind := at + g.below(len(c.List)+1-at)
		c.List = slices.Insert(c.List, behind, api.Inst{Op: api.OpEnd})
		c.List = slices.Insert(c.List, at, api.Inst{Op: api.OpWhen, A: whole})
	}
}

// TestSmallWays: IR3, all codes of few pieces, each way through each of them.
func TestSmallWays(t *testing.T) {
	pieces := read("Number D0; Neg D1 A0; When A2; End; Loop; Next; Copy D4 A0; Sum D0 A4")
	count := 0
	var grow func(list []api.Inst, left int)
	grow = func(list []api.Inst, left int) {
		c := usual(list...)
		if standsWell(c) {
			count++
			if at := firstUnset(list); at < len(list) {
				holdCheck(t, c, errCode, at)
			} else {
				holdCheck(t, c, api.OK, 0)
			}
		}
		if left == 0 {
			return
		}
		for _, p := range pieces {
			c.List = append(slices.Clone(list), p)
			if wantStands(c, len(list)) {
				grow(c.List, left-1)
			}
		}
	}
	grow(read("Whole D2"), 7)
	if count < 10000 {
		t.Errorf("only %d codes", count)
	}
}

// TestLeftOut: IR3, a code that is taken is taken still when an instruction that sets what no later one reads is left out.
func TestLeftOut(t *testing.T) {
	g := &grower{samples.Source(164)}
	count := 0
	for range 6000 {
		c := g.code(40)
		for at := len(c.List) - 1; at >= 0; at-- {
			if !wantSets(c.List[at]) || isReadBehind(c.List, at) {
				continue
			}
			less := c
			less.List = slices.Delete(slices.Clone(c.List), at, at+1)
			holdCheck(t, less, api.OK, 0)
			count++
			if g.below(2) == 0 {
				c = less
			}
		}
	}
	if count < 20000 {
		t.Errorf("only %d were left out", count)
	}
}

func isReadBehind(list []api.Inst, at int) bool {
	return slices.ContainsFunc(list[at+1:], func(i api.Inst) bool { return slices.Contains(wantReads(i), list[at].D) })
}

// TestBeginnings: IR4, a beginning without an open block is well formed; one with an open block is refused at its end.
func TestBeginnings(t *testing.T) {
	g := &grower{samples.Source(165)}
	whole, open := 0, 0
	for range 5000 {
		c := g.code(40)
		for n := range c.List {
			part := c
			part.List = c.List[:n]
			if len(openAt(part.List)) == 0 {
				whole++
				holdCheck(t, part, api.OK, 0)
			} else {
				open++
				holdCheck(t, part, errCode, n)
			}
		}
	}
	if whole < 10000 || open < 10000 {
		t.Errorf("%d beginnings without and %d with an open block", whole, open)
	}
}

// TestMarksLeftOut: IR3, a loop is done in every way: without its loops' marks a code is as well formed as with them.
func TestMarksLeftOut(t *testing.T) {
	g := &grower{samples.Source(166)}
	for range 4000 {
		c := g.code(40)
		c.List = slices.DeleteFunc(c.List, func(i api.Inst) bool { return i.Op == api.OpLoop || i.Op == api.OpNext })
		holdCheck(t, c, api.OK, 0)
	}
}

// TestGreatest: IR3, codes of MaxCode instructions with MaxNest blocks in one another, of several shapes.
func TestGreatest(t *testing.T) {
	when, end := read("When A2"), read("End")
	first := read("Whole D2 N1")
	for _, inner := range []string{"Number D0", "Number D0; Neg D1 A0; Neg D0 A1", "When A2; Number D0; End", "When A2; Grad D4; Out A4; End", "When A2; End", "Loop; Grad D4; Neg D5 A4; Out A5; Next", "When A2; End; Loop; Next; Number D1"} {
		depth := maxNest - 1
		body := read(inner)
		list := slices.Concat(first, slices.Repeat(when, depth))
		for len(list)+len(body) <= maxCode-depth {
			list = append(list, body...)
		}
		for len(list) < maxCode-depth {
			list = append(list, first...)
		}
		list = append(list, slices.Repeat(end, depth)...)
		if len(list) != maxCode {
			t.Fatalf("%d instructions", len(list))
		}
		for range 20 {
			holdCheck(t, usual(list...), api.OK, 0)
		}
		list[maxCode-depth-1] = read("Copy D6 A7")[0]
		holdCheck(t, usual(list...), errCode, maxCode-depth-1)
	}
}

// TestMostBlocks: IR3, all registers set by one block after the other, and by blocks in one another over and over.
func TestMostBlocks(t *testing.T) {
	c := api.Code{Regs: append(slices.Repeat([]api.Type{numberType()}, maxRegs-1), wholeType())}
	whole := maxRegs - 1
	when, end := api.Inst{Op: api.OpWhen, A: whole}, api.Inst{Op: api.OpEnd}
	c.List = []api.Inst{{Op: api.OpWhole, D: whole}}
	for register := 0; len(c.List)+3 <= maxCode; register++ {
		c.List = append(c.List, when, api.Inst{Op: api.OpNumber, D: register % whole}, end)
	}
	holdCheck(t, c, api.OK, 0)
	c.List = c.List[:1]
	for len(c.List)+4*maxNest <= maxCode {
		for depth := range maxNest {
			c.List = append(c.List, when, api.Inst{Op: api.OpNumber, D: depth})
		}
		for depth := range maxNest {
			c.List = append(c.List, api.Inst{Op: api.OpNeg, D: maxNest + depth, A: maxNest - 1 - depth}, end)
		}
	}
	holdCheck(t, c, api.OK, 0)
	c.List = c.List[:1]
	for register := range whole {
		c.List = append(c.List, api.Inst{Op: api.OpNumber, D: register})
	}
	for register := range whole {
		c.List = append(c.List, api.Inst{Op: api.OpNeg, D: register, A: whole - 1 - register})
	}
	holdCheck(t, c, api.OK, 0)
}
