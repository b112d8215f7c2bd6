package prune

import (
	"lathe/api"
	"lathe/ir"
)

// A search goes from what is needed to what that makes needed. It goes over each instruction once, and over what sets a register or
// stores to a slot once, so that its time hangs on the code's length alone.
type search struct {
	code     *api.Code
	setters  [][]int // by register: the places of all that set it; none, once they are needed
	stores   [][]int // by slot: the places of its OpStores; none, once they are needed
	around   []int   // by place: that of the mark that begins the innermost block around it; -1, if there is none
	end      []int   // by place of a mark that begins a block: that of the one that ends it
	isNeeded []bool  // by place
	todo     []int   // places that are needed, and from which the search has yet to go on
}

func newSearch(c *api.Code) *search {
	count := len(c.List)
	s := &search{code: c, setters: make([][]int, len(c.Regs)), stores: make([][]int, len(c.Slots))}
	s.around, s.end, s.isNeeded = make([]int, count), make([]int, count), make([]bool, count)
	begin := -1
	for place, i := range c.List {
		if ir.Sets(i) {
			s.setters[i.D] = append(s.setters[i.D], place)
		}
		if i.Op == api.OpStore {
			s.stores[i.N] = append(s.stores[i.N], place)
		}
		if i.Op == api.OpEnd || i.Op == api.OpNext {
			s.end[begin] = place
			begin = s.around[begin]
		}
		s.around[place] = begin // a block's marks stand outside of it
		if i.Op == api.OpWhen || i.Op == api.OpLoop {
			begin = place
		}
	}
	return s
}

// neededOf are the needed instructions of well formed code, in order.
func neededOf(c *api.Code) []api.Inst {
	s := newSearch(c)
	for place, i := range c.List {
		if i.Op == api.OpOut {
			s.need(place)
		}
	}
	for len(s.todo) > 0 {
		last := len(s.todo) - 1
		place := s.todo[last]
		s.todo = s.todo[:last]
		s.goOn(place)
	}
	var list []api.Inst
	for place, i := range c.List {
		if s.isNeeded[place] {
			list = append(list, i)
		}
	}
	return list
}

// goOn needs what an instruction that is needed makes needed.
func (s *search) goOn(place int) {
	i := s.code.List[place]
	for _, register := range ir.Reads(i) {
		s.need(s.setters[register]...)
		s.setters[register] = nil
	}
	if i.Op == api.OpLoad {
		s.need(s.stores[i.N]...)
		s.stores[i.N] = nil
	}
	if begin := s.around[place]; begin >= 0 {
		s.need(begin, s.end[begin])
	}
}

func (s *search) need(places ...int) {
	for _, place := range places {
		if !s.isNeeded[place] {
			s.isNeeded[place] = true
			s.todo = append(s.todo, place)
		}
	}
}
