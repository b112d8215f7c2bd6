package alloc

import (
	"slices"

	"lathe/api"
	"lathe/ir"
	"lathe/samples"
)

// waysOf are, by place, the places to which a way leads from there, by the chapter's words: the next one; from an OpWhen also the one that
// follows its OpEnd.
func waysOf(c api.Code) [][]int {
	ways := make([][]int, len(c.List))
	var open []int
	for at, i := range c.List {
		ways[at] = []int{at + 1}
		switch i.Op {
		case 34:
			open = append(open, at)
		case 35:
			begin := open[len(open)-1]
			open = open[:len(open)-1]
			ways[begin] = append(ways[begin], at+1)
		}
	}
	return ways
}

// isAliveByWords tells whether there is a way on from behind a place on which a register is read, and not set ahead of that.
func isAliveByWords(c api.Code, ways [][]int, at, register int) bool {
	isSeen := make([]bool, len(c.List)+1)
	todo := slices.Clone(ways[at])
	for len(todo) > 0 {
		at := todo[len(todo)-1]
		todo = todo[:len(todo)-1]
		if at == len(c.List) || isSeen[at] {
			continue
		}
		isSeen[at] = true
		i := c.List[at]
		if slices.Contains(ir.Reads(i), register) {
			return true
		}
		if !ir.Sets(i) || i.D != register {
			todo = append(todo, ways[at]...)
		}
	}
	return false
}

// pressureByWords is RA1 done slowly.
func pressureByWords(c api.Code) []int {
	most := make([]int, 2+len(c.Sign))
	ways := waysOf(c)
	for at, i := range c.List {
		count := make([]int, len(most))
		for register, is := range c.Regs {
			if isAliveByWords(c, ways, at, register) || ir.Sets(i) && i.D == register {
				count[samples.SortOf(is)]++
			}
		}
		for sort := range most {
			most[sort] = max(most[sort], count[sort])
		}
	}
	return most
}

// mayRefuse tells whether ErrSlots or ErrSize may be told of a code.
func mayRefuse(c api.Code) bool {
	return !samples.IsFew(samples.Registers(c)) && (!samples.IsSingle(c) || !samples.IsFew(pressureOf(c)))
}
