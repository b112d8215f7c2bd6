package lower

import (
	"slices"
	"testing"

	"lathe/api"
	"lathe/ir"
	"lathe/samples"
)

// walk goes through a program's transforms.
func walk(x api.Tx, see func(x api.Tx)) {
	see(x)
	for _, kid := range x.Kids {
		walk(kid, see)
	}
}

// transforms are how many a program has.
func transforms(x api.Tx) int {
	count := 0
	walk(x, func(api.Tx) { count++ })
	return count
}

// counts are how many counts c a program has, and whether it has a transform that keeps another whole number.
func counts(x api.Tx) (int, bool) {
	count, others := 0, false
	walk(x, func(x api.Tx) {
		switch x.Op {
		case 3, 8, 9, 12, 13, 14, 32, 34, 42:
			count++
		case 26, 27, 30:
			others = true
		}
	})
	return count, others
}

// keptNumbers are how many numbers a code keeps.
func keptNumbers(c api.Code) int {
	total := 0
	for _, s := range c.Slots {
		switch {
		case s.Keep && s.Type.Kind == 3:
			total += c.Sign[s.Type.Param].Len
		case s.Keep:
			total++
		}
	}
	return total
}

// keptWholes are the slots of whole numbers that a code keeps.
func keptWholes(c api.Code) []int {
	var list []int
	for i, s := range c.Slots {
		if s.Keep && s.Type.Kind == 2 {
			list = append(list, i)
		}
	}
	return list
}

// setBy are how many instructions set each register. Those that set none are told by their Op.
func setBy(c api.Code) []int {
	times := make([]int, len(c.Regs))
	for _, i := range c.List {
		if i.Op != 31 && i.Op != 33 && i.Op != 34 && i.Op != 35 {
			times[i.D]++
		}
	}
	return times
}

// holdForm: LO2 to LO5 of a program that must have a code, as far as its form tells; the code.
func holdForm(t *testing.T, x api.Tx, list []api.Param) api.Code {
	t.Helper()
	c := coded(t, x, list)
	if e, at := ir.Check(c); e != api.OK {
		t.Errorf("ir.Check = %d at %d", e, at)
	}
	if !slices.Equal(c.Sign, list) {
		t.Errorf("its signature is %v, want %v", c.Sign, list)
	}
	if again := coded(t, x, list); !ir.Equal(c, again) {
		t.Errorf("another code when it is asked again: %s", samples.Show(again))
	}
	holdLimits(t, c, wantWeight(x, list))
	if numbers, most := keptNumbers(c), transforms(x)*(3*numbersOf(list)+2); numbers > most {
		t.Errorf("it keeps %d numbers, more than %d", numbers, most)
	}
	count, others := counts(x)
	if wholes := keptWholes(c); len(wholes) < count || !others && len(wholes) > count {
		t.Errorf("it keeps %d whole numbers, and has %d counts", len(wholes), count)
	}
	for _, slot := range keptWholes(c) {
		if c.Slots[slot].Int != 0 {
			t.Errorf("the slot %d begins at %d", slot, c.Slots[slot].Int)
		}
	}
	if t.Failed() {
		t.Fatalf("of %s over %v: %s", brief(x), list, samples.Show(c))
	}
	return c
}

// holdLimits: LO4, of code of that weight.
func holdLimits(t *testing.T, c api.Code, weight int) {
	t.Helper()
	if len(c.List) > 64*weight || len(c.Regs) > 64*weight || len(c.Slots) > 8*weight {
		t.Errorf("%d instructions, %d registers, %d slots for the weight %d", len(c.List), len(c.Regs), len(c.Slots), weight)
	}
	for at, i := range c.List {
		if i.Op == opLoop || i.Op == opNext {
			t.Errorf("a loop at %d", at)
		}
	}
	for register, times := range setBy(c) {
		if times != 1 {
			t.Errorf("the register %d is set by %d instructions", register, times)
		}
	}
}

func numbersOf(list []api.Param) int {
	total := 0
	for _, p := range list {
		total += p.Len * p.Kind
	}
	return total
}

// signatures are some on which each transform is tried: none, one of each kind, several.
func signatures() [][]api.Param {
	return [][]api.Param{nil, real1(), complex1(), mixed(), realsOf(mixed()), {{Name: "long", Kind: 2, Len: 40}, {Name: "w", Kind: 1, Len: 17}}}
}

// TestFormOfEach: LO2 to LO5, each transform by itself, over all kinds of signatures.
func TestFormOfEach(t *testing.T) {
	g := growerOf(18)
	for _, row := range samples.Rows() {
		for _, list := range signatures() {
			for range 20 {
				x := g.Transform(row, 2, len(list))
				if over, ok := made(x, list); ok {
					holdForm(t, over, list)
				}
			}
		}
	}
}

// TestFormWithoutPieces: LO4 and LO5, a transform that has no active parameters weighs one, and keeps its count all the same.
func TestFormWithoutPieces(t *testing.T) {
	g := growerOf(19)
	for _, row := range samples.Rows() {
		if row.Kids > 0 || row.Op == 3 {
			continue
		}
		x := g.Transform(row, 1, 0)
		c := holdForm(t, api.Tx{Op: 24, Masks: [][]int{{}}, Kids: []api.Tx{x}}, mixed())
		holdWeight(t, x, nil, 1)
		alone := holdForm(t, x, nil)
		if len(alone.List) > 64 || len(alone.Slots) > 8 {
			t.Errorf("Op %d: %d instructions, %d slots", row.Op, len(alone.List), len(alone.Slots))
		}
		if want, others := counts(x); len(keptWholes(c)) != want && !others {
			t.Errorf("Op %d: %d whole numbers are kept, want %d", row.Op, len(keptWholes(c)), want)
		}
	}
}

// TestMarksOfBlocks: LO4, code without loops may have blocks, and has none where no transform asks for one.
func TestMarksOfBlocks(t *testing.T) {
	for _, c := range []struct {
		text   string
		blocks int
	}{
		{"chain(scale(2), trace(0.5), masked(\"w\", ema(0.5)))", 0},
		{"skip_large(scale(2), 1.0)", 1},
		{"apply_if_finite(scale(2), 1)", 1},
		{"multi_steps(3, skip_large(scale(2), 1.0))", 2},
		{"until(3, scale(2), trace(0.5))", 2},
	} {
		code := holdForm(t, typed(t, c.text, mixed()), mixed())
		blocks := 0
		for _, i := range code.List {
			if i.Op == 34 {
				blocks++
			}
		}
		if blocks != c.blocks {
			t.Errorf("%s: %d blocks, want %d", c.text, blocks, c.blocks)
		}
	}
}
