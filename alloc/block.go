package alloc

import "slices"

// A block of OpWhen that is open: which value each register had at its beginning, and whether that was safe. Where it is left out, all
// values are still there where they were then, so behind it they have to be there also where it was done.
type block struct {
	holders []int
	isSafe  []bool
}

// enter goes into a block.
func (w *walk) enter() {
	b := block{holders: slices.Clone(w.holders), isSafe: make([]bool, len(w.holders))}
	for register, n := range w.holders {
		b.isSafe[register] = n != none && w.values[n].isSafe
	}
	w.open = append(w.open, b)
}

// leave goes out of the innermost block, of which the OpEnd is still to be written. What stands elsewhere than at its beginning goes by
// its slot, all of them first to the slots: so nothing is lost where two have changed places.
func (w *walk) leave() {
	last := len(w.open) - 1
	b := w.open[last]
	w.open = w.open[:last]
	for len(b.holders) < len(w.holders) {
		b.holders, b.isSafe = append(b.holders, none), append(b.isSafe, false)
	}
	for register, n := range w.holders {
		if n != none && b.holders[register] != n {
			w.save(n)
		}
	}
	for register, n := range b.holders {
		if n != none && w.holders[register] != n && w.values[n].isAlive {
			i := w.values[n].again
			i.D = register
			w.put(i)
		}
	}
	w.restore(b)
}

// restore lets the registers have the values that they had at a block's beginning. A value is safe then, if it is on both ways; one that
// stood in no register was, and is.
func (w *walk) restore(b block) {
	for _, n := range w.holders {
		if n != none {
			w.values[n].register = none
		}
	}
	w.holders = b.holders
	for register, n := range w.holders {
		if n != none {
			w.values[n].register = register
			w.values[n].isSafe = w.values[n].isSafe && b.isSafe[register]
		}
	}
}
