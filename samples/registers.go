package samples

import (
	"strings"

	"lathe/api"
)

// SortOf is a place in lists that have numbers first, then whole numbers, then the vectors of each parameter.
func SortOf(t api.Type) int { return []int{0, 0, 1, 2 + t.Param}[t.Kind] }

// MostOf is how many registers of a sort there may be where there are few.
func MostOf(sort int) int {
	if sort < 2 {
		return 16
	}
	return 8
}

// Registers is how many registers of each sort a code has.
func Registers(c api.Code) []int {
	count := make([]int, 2+len(c.Sign))
	for _, t := range c.Regs {
		count[SortOf(t)]++
	}
	return count
}

// IsFew tells whether there are of each sort at most as many as there may be.
func IsFew(count []int) bool {
	for sort, n := range count {
		if n > MostOf(sort) {
			return false
		}
	}
	return true
}

// Merged is a code in which only so many registers of each type are left, at most: what another one was for, one of these is for. It is
// well formed, if the code is, as no less is set; and it is not single, mostly.
func (g *Grower) Merged(c api.Code, most int) api.Code {
	d := CloneCode(c)
	d.Regs = nil
	left := map[api.Type][]int{}
	instead := make([]int, len(c.Regs))
	for register, t := range c.Regs {
		if len(left[t]) < most {
			left[t] = append(left[t], len(d.Regs))
			d.Regs = append(d.Regs, t)
		}
		instead[register] = left[t][g.Below(len(left[t]))]
	}
	for n := range d.List {
		i := &d.List[n]
		for _, letter := range []byte("DABC") {
			if field := Field(i, letter); strings.IndexByte(Fields()[i.Op-1], letter) >= 0 {
				*field = instead[*field]
			}
		}
	}
	return d
}
