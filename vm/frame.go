package vm

import "lathe/api"

// A frame is what the instructions of a program work on.
type frame struct {
	program *program
	registers
	slots
}

func newFrame(p *program) frame {
	return frame{p, newRegisters(p.Code), newSlots(p.Code)}
}

// registers are cells by number. Well formed code sets each ahead of reading it, so that what a step leaves there no other one sees.
type registers []cell

func newRegisters(c *api.Code) registers {
	list := make(registers, len(c.Regs))
	for register, t := range c.Regs {
		list[register] = newCell(c, t)
	}
	return list
}

// at is the number of a register at a place. One that stands alone is that of each place.
func (r registers) at(register, place int) float32 {
	numbers := r[register].numbers
	if len(numbers) == 1 {
		place = 0
	}
	return numbers[place]
}

// all are the numbers of a register, in order.
func (r registers) all(register int) []float32 { return r[register].numbers }

// count is the whole number of a register.
func (r registers) count(register int) int { return r[register].whole }

// slots are cells by number, which hold at the beginning what the code says.
type slots struct {
	begins []api.Slot
	cells  []cell
}

func newSlots(c *api.Code) slots {
	s := slots{c.Slots, make([]cell, len(c.Slots))}
	for n, slot := range s.begins {
		s.cells[n] = newCell(c, slot.Type)
		s.cells[n].begin(slot)
	}
	return s
}

// forget puts those without Keep to their beginning.
func (s *slots) forget() {
	for n, slot := range s.begins {
		if !slot.Keep {
			s.cells[n].begin(slot)
		}
	}
}

// kept is what those with Keep hold, as a state.
func (s *slots) kept() []uint32 {
	var state []uint32
	for n, slot := range s.begins {
		if slot.Keep {
			state = s.cells[n].tell(state)
		}
	}
	return state
}

// mayKeep tells whether those with Keep can hold what a state says.
func (s *slots) mayKeep(state []uint32) bool {
	for n, slot := range s.begins {
		if !slot.Keep {
			continue
		}
		c := &s.cells[n]
		size := c.size()
		if len(state) < size || !c.mayTake(state[:size]) {
			return false
		}
		state = state[size:]
	}
	return len(state) == 0
}

// keep makes those with Keep hold what a state says that they can hold.
func (s *slots) keep(state []uint32) {
	for n, slot := range s.begins {
		if slot.Keep {
			size := s.cells[n].size()
			s.cells[n].take(state[:size])
			state = state[size:]
		}
	}
}
