package alloc

import (
	"lathe/api"
	"lathe/ir"
)

// none is the number of no register, no value and no place.
const none = -1

// A value is what a register of the given code holds: it has that register's number.
type value struct {
	ahead    []int    // the places that read or set it, from here on; one that does so twice is there twice
	isAlive  bool     // it may be read yet
	register int      // of the answer: in which it stands, or stood when it was alive, if nothing has come to stand in it since
	again    api.Inst // what makes it again, without D: loads the slot that is its own, if it has one
	isSafe   bool     // again makes just what it is
}

// valuesOf are those of a code, ahead of its first instruction.
func valuesOf(c *api.Code) []value {
	values := make([]value, len(c.Regs))
	settings := make([]int, len(c.Regs))
	for n := range values {
		values[n].register = none
	}
	for place, i := range c.List {
		for _, n := range mentioned(i) {
			values[n].ahead = append(values[n].ahead, place)
		}
		if !ir.Sets(i) {
			continue
		}
		values[i.D].again = api.Inst{}
		if settings[i.D]++; settings[i.D] == 1 && isSource(i.Op) {
			values[i.D].again = api.Inst{Op: i.Op, N: i.N, Bits: i.Bits}
		}
	}
	return values
}

// mentioned are the registers that an instruction reads or sets.
func mentioned(i api.Inst) []int {
	list := ir.Reads(i)
	if ir.Sets(i) {
		list = append(list, i.D)
	}
	return list
}

// isSource tells whether an instruction makes the same wherever it stands: it hangs neither on registers nor on slots.
func isSource(op int) bool {
	switch op {
	case api.OpNumber, api.OpWhole, api.OpGrad, api.OpParam:
		return true
	}
	return false
}

// endsOf are, by place, the registers that an instruction reads or sets, and that are not alive behind it.
func endsOf(c *api.Code) [][]int {
	ends := make([][]int, len(c.List))
	goBack(c, func(place int, l *life) {
		for _, n := range mentioned(c.List[place]) {
			if !l.alive.has(n) {
				ends[place] = append(ends[place], n)
			}
		}
	})
	return ends
}
