package vm

import (
	"lathe/api"
	"lathe/measure"
)

// A cell is what a register or a slot holds: of a TypeNumber one number, of a TypeVector as many as its parameter has elements, of a
// TypeWhole none, but a whole number.
type cell struct {
	numbers []float32
	whole   int
}

func newCell(c *api.Code, t api.Type) cell {
	if t.Kind == api.TypeWhole {
		return cell{}
	}
	return cell{numbers: make([]float32, measure.Width(c, t))}
}

// isWhole tells whether it is of a TypeWhole: each parameter has elements.
func (c *cell) isWhole() bool { return len(c.numbers) == 0 }

// begin makes it hold what a slot does at the beginning.
func (c *cell) begin(s api.Slot) {
	for place := range c.numbers {
		c.numbers[place] = value(s.Bits)
	}
	c.whole = s.Int
}

// assign makes it hold what another one of its type does, of the numbers those from first on and ahead of past.
func (c *cell) assign(other *cell, first, past int) {
	copy(c.numbers[first:past], other.numbers[first:past])
	c.whole = other.whole
}

// size is how many numbers of a state it takes.
func (c *cell) size() int {
	if c.isWhole() {
		return 1
	}
	return len(c.numbers)
}

// mayTake tells whether it can hold what as many numbers of a state say as it takes.
func (c *cell) mayTake(state []uint32) bool {
	return !c.isWhole() || state[0] <= api.MaxCount
}

// take makes it hold what these numbers of a state say.
func (c *cell) take(state []uint32) {
	if c.isWhole() {
		c.whole = int(state[0])
		return
	}
	for place, a := range state {
		c.numbers[place] = value(api.F(a))
	}
}

// tell puts what it holds to a state.
func (c *cell) tell(state []uint32) []uint32 {
	if c.isWhole() {
		return append(state, uint32(c.whole))
	}
	for _, x := range c.numbers {
		state = append(state, uint32(pattern(x)))
	}
	return state
}
