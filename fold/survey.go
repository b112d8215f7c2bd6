package fold

import (
	"lathe/api"
	"lathe/ir"
)

// A value is a pattern or a whole number; the other one is 0.
type value struct {
	bits  api.F
	whole int
}

// A tally is of the instructions that set one register, without those that are gone.
type tally struct {
	open int           // those that make something that is not known
	made map[value]int // how many of the others make each value
}

// A survey finds out what is known of a code. Nothing that it has found is ever taken back: instructions go and do not come again, and
// what one makes stays what it is.
type survey struct {
	code    *api.Code
	known   map[int]value // the constant registers
	made    map[int]value // by place: what instructions make
	gone    []bool        // by place
	ends    []int         // by place of an OpWhen: where its OpEnd stands
	setters []tally       // by register
	readers [][]int       // by register: the places
	fresh   []int         // constant registers whose readers are to be looked at again
}

// surveyed is all that can be known of well formed code.
func surveyed(c *api.Code) *survey {
	places, registers := len(c.List), len(c.Regs)
	s := &survey{code: c, known: map[int]value{}, made: map[int]value{}}
	s.gone, s.ends = make([]bool, places), make([]int, places)
	s.setters, s.readers = make([]tally, registers), make([][]int, registers)
	s.gather()
	for at := range c.List {
		s.look(at)
	}
	for len(s.fresh) > 0 {
		last := len(s.fresh) - 1
		register := s.fresh[last]
		s.fresh = s.fresh[:last]
		for _, at := range s.readers[register] {
			s.look(at)
		}
	}
	return s
}

// gather takes down what stands in the code.
func (s *survey) gather() {
	var open []int
	for at, i := range s.code.List {
		for _, register := range ir.Reads(i) {
			s.readers[register] = append(s.readers[register], at)
		}
		if ir.Sets(i) {
			s.setters[i.D].open++
		}
		switch i.Op {
		case api.OpWhen:
			open = append(open, at)
		case api.OpEnd:
			last := len(open) - 1
			s.ends[open[last]] = at
			open = open[:last]
		}
	}
}

// look asks what is known of an instruction by now.
func (s *survey) look(at int) {
	i := &s.code.List[at]
	if s.gone[at] {
		return
	}
	if i.Op == api.OpWhen {
		s.lookAtBlock(at, s.ends[at])
		return
	}
	if _, isMade := s.made[at]; isMade {
		return
	}
	if v, isMade := s.reckoned(i); isMade {
		s.settle(at, v)
	}
}

// lookAtBlock takes a block away that is never done, and the marks of one that is always done.
func (s *survey) lookAtBlock(when, end int) {
	v, isKnown := s.known[s.code.List[when].A]
	switch {
	case isKnown && v.whole == 0:
		for at := when; at <= end; at++ {
			s.remove(at)
		}
	case isKnown:
		s.remove(when)
		s.remove(end)
	}
}

// settle takes down what an instruction makes.
func (s *survey) settle(at int, v value) {
	s.made[at] = v
	register := s.code.List[at].D
	t := &s.setters[register]
	t.open--
	if t.made == nil {
		t.made = map[value]int{}
	}
	t.made[v]++
	s.weigh(register)
}

// remove takes an instruction away, if it is there still.
func (s *survey) remove(at int) {
	i := s.code.List[at]
	if s.gone[at] {
		return
	}
	s.gone[at] = true
	if !ir.Sets(i) {
		return
	}
	v, isMade := s.made[at]
	s.setters[i.D].remove(v, isMade)
	s.weigh(i.D)
}

// remove takes away one that makes v, or one of which that is not known.
func (t *tally) remove(v value, isMade bool) {
	if !isMade {
		t.open--
		return
	}
	t.made[v]--
	if t.made[v] == 0 {
		delete(t.made, v)
	}
}

// weigh asks whether a register has become constant: all that set it make one and the same value.
func (s *survey) weigh(register int) {
	t := &s.setters[register]
	if _, isKnown := s.known[register]; isKnown || t.open > 0 || len(t.made) != 1 {
		return
	}
	for v := range t.made { // there is one alone
		s.known[register] = v
	}
	s.fresh = append(s.fresh, register)
}
