package alloc

import (
	"slices"

	"lathe/api"
	"lathe/ir"
	"lathe/samples"
)

// waysOf are, by place, the places to which a way leads from there, by the chapter's words: the next one; from an OpWhen also the one that
// follows its OpEnd.
func waysOf(c api.Code) [][]int {
	ways := make([][]int, len(c.List))
	var open []int
	for at, i := range c.List {
		ways[at] = []int{at + 1}
		switch i.Op {
		case 34:
			open = append(open, at)
		case 35:
			begin := open[len(open)-1]
			open = open[:len(open)-1]
			ways[begin] = append(ways[begin], at+1)
		}
	}
	return ways
}

// isAliveByWords tells whether there is a way on from behind a place on which a register is read, and not set ahead of that.
func isAliveByWords(c api.Code, ways [][]int, at, register int) bool {
	isSeen := make([]bool, len(c.List)+1)
	todo := slices.Clone(ways[at])
	for len(todo) > 0 {
		at := todo[len(todo)-1]
		todo = todo[:len(todo)-1]
		if at == len(c.List) || isSeen[at] {
			continue
		}
		isSeen[at] = true
		i := c.List[at]
		if slices.Contains(ir.Reads(i), register) {
			return true
		}
		if !ir.Sets(i) || i.D != register {
			todo = append(todo, ways[at]...)
		}
	}
	return false
}

// sortByWords is a place in lists that have numbers first, then whole numbers, then the vectors of each parameter.
func sortByWords(t api.Type) int { return []int{0, 0, 1, 2 + t.Param}[t.Kind] }

// pressureByWords is RA1 done slowly.
func pressureByWords(c api.Code) []int {
	most := make([]int, 2+len(c.Sign))
	ways := waysOf(c)
	for at, i := range c.List {
		count := make([]int, len(most))
		for register, is := range c.Regs {
			if isAliveByWords(c, ways, at, register) || ir.Sets(i) && i.D == register {
				count[sortByWords(is)]++
			}
		}
		for sort := range most {
			most[sort] = max(most[sort], count[sort])
		}
	}
	return most
}

// registersOf is how many registers of each sort a code has.
func registersOf(c api.Code) []int {
	count := make([]int, 2+len(c.Sign))
	for _, t := range c.Regs {
		count[sortByWords(t)]++
	}
	return count
}

// isFew tells whether there are of each sort at most as many as Alloc may leave.
func isFew(count []int) bool {
	for sort, n := range count {
		if n > mostOf(sort) {
			return false
		}
	}
	return true
}

func mostOf(sort int) int {
	switch sort {
	case 0:
		return keepScalar
	case 1:
		return keepWhole
	}
	return keepVector
}

// mayRefuse tells whether ErrSlots or ErrSize may be told of a code.
func mayRefuse(c api.Code) bool {
	return !isFew(registersOf(c)) && (!samples.IsSingle(c) || !isFew(pressureOf(c)))
}

// merged is a code in which only so many registers of each type are left, at most: what another one was for, one of these is for. It is
// well formed, if the code is, as no less is set; and it is not single, mostly.
func merged(g *samples.Grower, c api.Code, most int) api.Code {
	d := samples.CloneCode(c)
	d.Regs = nil
	left := map[api.Type][]int{}
	instead := make([]int, len(c.Regs))
	for register, t := range c.Regs {
		if len(left[t]) < most {
			left[t] = append(left[t], len(d.Regs))
			d.Regs = append(d.Regs, t)
		}
		instead[register] = left[t][g.Below(len(left[t]))]
	}
	for n := range d.List {
		i := &d.List[n]
		fields := []*int{&i.A, &i.B, &i.C}[:len(ir.Reads(*i))]
		if ir.Sets(*i) {
			fields = append(fields, &i.D)
		}
		for _, field := range fields {
			*field = instead[*field]
		}
	}
	return d
}
