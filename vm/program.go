package vm

import (
	"lathe/api"
	"lathe/measure"
)

// A program is code made ready to run. It is never written to, so that clones may have it.
type program struct {
	*api.Code
	costs []int // by place: what the instruction there costs
	ends  []int // by place, of an OpWhen: the place of its OpEnd
}

func newProgram(c *api.Code) *program {
	p := &program{Code: c, costs: make([]int, len(c.List)), ends: make([]int, len(c.List))}
	var open []int // the places of each OpWhen whose block is open, the outermost first
	for at := range c.List {
		p.costs[at] = measure.Cost(c, &c.List[at])
		switch c.List[at].Op {
		case api.OpWhen:
			open = append(open, at)
		case api.OpEnd:
			last := len(open) - 1
			p.ends[open[last]] = at
			open = open[:last]
		}
	}
	return p
}

// apart is how far apart the patterns of one part stand in a parameter's vector.
func (p *program) apart(param int) int {
	if p.Sign[param].Kind == api.KindComplex {
		return 2
	}
	return 1
}
