package interp

import (
	"fmt"
	"slices"
	"strings"
	"testing"

	"lathe/api"
)

// TestWhen: IN2, a block is done where A is not 0, and left out where it is.
func TestWhen(t *testing.T) {
	for _, n := range []int{0, 1, 2, 7, 1 << 16, maxCount - 1, maxCount} {
		ahead := fmt.Sprintf("Whole D4 N%d; Whole D5; Number D0 =3f800000; Grad D8; Number D2 =40800000;", n)
		isDone := n != 0
		number, vector, updates := one, []api.F{one, two, three}, []api.F{0, 0, 0}
		if isDone {
			number, vector, updates = three, []api.F{0xbf800000, inf, 0}, []api.F{four, four, four}
		}
		holdNumber(t, ahead+"When A4; Number D0 =40400000; End", number)
		holdVector(t, ahead+"When A4; Param D8; End", vector...)
		holdUpdates(t, ahead+"When A4; Copy D9 A2; Out A9; End", updates, []api.F{0, 0, 0, 0}, []api.F{0})
		holdNumber(t, ahead+"Number D1 =40400000; Store A0; When A4; Store A1; End; Load D0", number)
		holdNumber(t, ahead+"When A4; Whole D4; Number D0 =40400000; End", number) // what A is later is not asked
		holdNumber(t, ahead+"When A4; Inc D4 A4; Inc D4 A4; When A4; Number D0 =40400000; End; End", number)
		holdNumber(t, ahead+"When A5; Whole D4 N1; End; When A4; Number D0 =40400000; End", number)
		holdNumber(t, ahead+"When A4; When A4; When A4; End; End; Number D0 =40400000; End", number)
		holdNumber(t, ahead+"When A4; End; Number D0 =40400000", three)
		holdNumber(t, ahead+"When A4; Number D0 =40000000; End; Number D0 =40400000", three)
		holdNumber(t, ahead+"When A4; Number D0 =40400000; When A5; Number D0 =40a00000; End; End", number)
		holdNumber(t, ahead+"When A4; When A5; Number D0 =40a00000; End; Number D0 =40400000; End", number)
		holdNumber(t, ahead+"When A5; When A4; Number D0 =40a00000; End; Number D0 =40400000; End", one)
		holdNumber(t, ahead+"When A5; When A5; Number D0 =40a00000; End; Number D0 =40400000; End", one)
		holdNumber(t, ahead+"When A4; Loop; Neg D8 A8; Next; Number D0 =40400000; End", number)
		holdNumber(t, ahead+"When A5; Loop; Neg D8 A8; Next; Loop N1; Next; When A4; End; Number D0 =40a00000; End; When A4; Number D0 =40400000; End", number)
		holdNumber(t, ahead+"Not D6 A4; When A4; Number D0 =40400000; End; When A6; Number D0 =3f800000; End", number)
	}
}

// TestTurnOfBlocks: IN2, blocks behind one another and in one another: all ways through some shapes, each block adding a number of its own.
func TestTurnOfBlocks(t *testing.T) {
	for _, shape := range []string{"()", "()()", "(())", "(()())", "((()))", "()(())()", "(()(()))()", "(((()))())", "()()()(())", "((())(()))"} {
		blocks := strings.Count(shape, "(")
		for ways := range 1 << blocks {
			var list []string
			var open []int
			want, added, block := 0, 1, 0
			isDone := func() bool { return !slices.ContainsFunc(open, func(b int) bool { return ways>>b&1 == 0 }) }
			add := func() { // numbers that are their own sums' names: each a power of two
				list = append(list, fmt.Sprintf("Number D1 =%08x; Add D0 A0 B1", uint32(told(float32(added)))))
				if isDone() {
					want += added
				}
				added *= 2
			}
			for _, mark := range shape {
				if mark == '(' {
					list = append(list, fmt.Sprintf("Whole D4 N%d; When A4", ways>>block&1*(block+1)))
					open = append(open, block)
					block++
				} else {
					list = append(list, "End")
					open = open[:len(open)-1]
				}
				add()
			}
			holdNumber(t, "Number D0;"+strings.Join(list, ";"), told(float32(want)))
		}
	}
}

// TestDeepest: IN2, MaxNest blocks in one another, the first of which that is left out is each of them, and none.
func TestDeepest(t *testing.T) {
	for first := range maxNest + 1 {
		c := usual("Number D0; Number D1 =3f800000; Whole D4 N1; Whole D5")
		when := read("When A4; Add D0 A0 B1")
		for depth := range maxNest {
			when[0].A = 4
			if depth == first {
				when[0].A = 5
			}
			c.List = append(c.List, when...)
		}
		for range maxNest {
			c.List = append(c.List, read("Add D0 A0 B1; End")...)
		}
		c.List = append(c.List, read("Store A0")...)
		r := begin(t, c)
		stepped(t, r, usualGrads(), usualParams())
		holdSlot(t, r, 0, []api.F{told(float32(2 * first))}, 0)
	}
}

// TestLoops: IN2 and IN4, what a loop does, and that its marks do nothing.
func TestLoops(t *testing.T) {
	z, u := []api.F{0, 0, 0, 0}, []api.F{0}
	holdUpdates(t, "Loop; Grad D8; Neg D9 A8; Out A9; Next", []api.F{0xbf800000, 0xc0000000, 0xc0400000}, z, u)
	holdUpdates(t, "Loop; Grad D8; Next; Sum D0 A8; Loop; Mul D9 A8 B0; Out A9; Next", []api.F{six, 0x41400000, 0x41900000}, z, u)
	holdUpdates(t, "Loop; Grad D8; Add D8 A8 B8; Add D8 A8 B8; Out A8; Next", []api.F{four, 0x41000000, 0x41400000}, z, u)
	holdUpdates(t, "Loop N1; Grad D12; Out A12 N1; Grad D13 N1; Out A13; Next", []api.F{0, 0, 0}, []api.F{half, four, minus, five}, u)
	holdUpdates(t, "Loop N2; Param D16; Out A16; Next; Loop; Next; Loop N1; Next", []api.F{0, 0, 0}, z, []api.F{0x41200000})
	holdUpdates(t, "Loop; Load D8 N2; Grad D9; Store A9 N2; Load D10 N2; Add D8 A8 B10; Out A8; Next", []api.F{one, two, three}, z, u)
	holdUpdates(t, "Loop; Load D8 N7; Out A8; Grad D9; Out A9; Load D8 N7; Finite D8 A8; Out A8; Next", []api.F{0, 0, 0}, z, u)
	holdUpdates(t, "Number D0 =40800000; Loop; Copy D8 A0; Out A8; Next; Number D0; Out A8", []api.F{four, four, four}, z, u)
	holdUpdates(t, "Number D0 =40800000; Whole D4 N1; When A4; Loop; Sqrt D8 A0; Out A8; Next; End", []api.F{two, two, two}, z, u)
	holdUpdates(t, "Number D0 =40800000; Whole D4; When A4; Loop; Sqrt D8 A0; Out A8; Next; End", []api.F{0, 0, 0}, z, u)
}
