package vm

import (
	"fmt"
	"slices"
	"strings"
	"testing"

	"lathe/api"
	"lathe/float"
	"lathe/samples"
)

// TestWhen: VM2, a block is done where A is not 0, and left out where it is.
func TestWhen(t *testing.T) {
	for _, n := range []int{0, 1, 2, 7, 1 << 16, maxCount - 1, maxCount} {
		ahead := fmt.Sprintf("Whole D4 N%d; Whole D5; Number D0 =3f800000; Grad D8; Number D2 =40800000;", n)
		number, vector, updates := one, []api.F{one, two, three}, []api.F{0, 0, 0}
		if n != 0 {
			number, vector, updates = three, []api.F{0xbf800000, inf, 0}, []api.F{four, four, four}
		}
		holdNumber(t, ahead+"When A4; Number D0 =40400000; End", number)
		holdVector(t, ahead+"When A4; Param D8; End", vector...)
		holdVector(t, ahead+"When A4; Loop; Param D8; Next; End", vector...)
		holdUpdates(t, ahead+"When A4; Copy D9 A2; Out A9; End", updates, []api.F{0, 0, 0, 0}, []api.F{0})
		holdNumber(t, ahead+"Number D1 =40400000; Store A0; When A4; Store A1; End; Load D0", number)
		holdNumber(t, ahead+"When A4; Whole D4; Number D0 =40400000; End", number) // what A is later is not asked
		holdNumber(t, ahead+"When A4; Inc D4 A4; Inc D4 A4; When A4; Number D0 =40400000; End; End", number)
		holdNumber(t, ahead+"When A5; Whole D4 N1; End; When A4; Number D0 =40400000; End", number)
		holdNumber(t, ahead+"When A4; When A4; When A4; End; End; Number D0 =40400000; End", number)
		holdNumber(t, ahead+"When A4; End; Number D0 =40400000", three)
		holdNumber(t, ahead+"When A4; Number D0 =40000000; End; Number D0 =40400000", three)
		holdNumber(t, ahead+"When A4; Number D0 =40400000; When A5; Number D0 =40a00000; End; End", number)
		holdNumber(t, ahead+"When A4; When A5; Number D0 =40a00000; End; Number D0 =40400000; End", number)
		holdNumber(t, ahead+"When A5; When A4; Number D0 =40a00000; End; Number D0 =40400000; End", one)
		holdNumber(t, ahead+"When A5; When A5; Number D0 =40a00000; End; Number D0 =40400000; End", one)
		holdNumber(t, ahead+"When A4; Loop; Neg D8 A8; Next; Number D0 =40400000; End", number)
		holdNumber(t, ahead+"When A5; Loop; Neg D8 A8; Next; Loop N1; Next; When A4; End; Number D0 =40a00000; End; When A4; Number D0 =40400000; End", number)
		holdNumber(t, ahead+"Not D6 A4; When A4; Number D0 =40400000; End; When A6; Number D0 =3f800000; End", number)
	}
}

// TestTurnOfBlocks: VM2, blocks behind one another and in one another: all ways through some shapes, each block adding a number of its own,
// to a number and in a loop to a vector. What each way spends is as with the interpreter.
func TestTurnOfBlocks(t *testing.T) {
	for _, shape := range []string{"()", "()()", "(())", "(()())", "((()))", "()(())()", "(()(()))()", "(((()))())", "()()()(())", "((())(()))"} {
		for ways := range 1 << strings.Count(shape, "(") {
			c, want := shaped(shape, ways)
			x := twinOf(t, c)
			x.step(t, usualGrads(), usualParams())
			sum := float.FromInt(want)
			if state := x.m.State(); state[0] != uint32(sum) || !slices.Equal(state[2:5], words(sum, sum, sum)) {
				t.Errorf("%s, %b: %08x, want %08x", shape, ways, state, sum)
			}
		}
	}
}

// shaped is code with blocks as brackets stand, of which those are done whose bit is 1 in the ways; and what it adds up.
func shaped(shape string, ways int) (api.Code, int) {
	list := []string{"Number D0; Copy D8 A0"}
	var open []int
	want, added, block := 0, 1, 0
	for _, mark := range shape {
		if mark == '(' {
			list = append(list, fmt.Sprintf("Whole D4 N%d; When A4", ways>>block&1*(block+1)))
			open = append(open, block)
			block++
		} else {
			list = append(list, "End")
			open = open[:len(open)-1]
		}
		list = append(list, fmt.Sprintf("Number D1 =%08x; Add D0 A0 B1; Loop; Add D8 A8 B1; Next", uint32(float.FromInt(added))))
		if !slices.ContainsFunc(open, func(b int) bool { return ways>>b&1 == 0 }) {
			want += added
		}
		added *= 2 // so that each sum tells what is in it
	}
	return usual(strings.Join(append(list, "Store A0; Store A8 N2"), ";")), want
}

// TestDeepest: VM2, MaxNest blocks in one another, the first of which that is left out is each of them, and none.
func TestDeepest(t *testing.T) {
	for first := range maxNest + 1 {
		c := usual("Number D0; Number D1 =3f800000; Whole D4 N1; Whole D5")
		when := read("When A4; Add D0 A0 B1")
		for depth := range maxNest {
			when[0].A = 4
			if depth == first {
				when[0].A = 5
			}
			c.List = append(c.List, when...)
		}
		for range maxNest {
			c.List = append(c.List, read("Add D0 A0 B1; End")...)
		}
		c.List = append(c.List, read("Store A0")...)
		m := begin(t, c)
		stepped(t, m, usualGrads(), usualParams())
		holdState(t, m, uint32(float.FromInt(2*first)), 0, 0, 0, 0, 0, 0, 0)
		if first < maxNest {
			holdSpent(t, m, 4+2*first+1+2*first+1)
		} else {
			holdSpent(t, m, 4+4*maxNest+1)
		}
	}
}

// TestLoops: VM2, what a loop does: element by element what would be done without its marks.
func TestLoops(t *testing.T) {
	z, u := []api.F{0, 0, 0, 0}, []api.F{0}
	for text, want := range map[string][][]api.F{
		"Loop; Grad D8; Neg D9 A8; Out A9; Next":                                                      {{0xbf800000, 0xc0000000, 0xc0400000}, z, u},
		"Loop; Grad D8; Next; Sum D0 A8; Loop; Mul D9 A8 B0; Out A9; Next":                            {{six, 0x41400000, 0x41900000}, z, u},
		"Loop; Grad D8; Add D8 A8 B8; Add D8 A8 B8; Out A8; Next":                                     {{four, 0x41000000, 0x41400000}, z, u},
		"Loop N1; Grad D12; Out A12 N1; Grad D13 N1; Out A13; Next":                                   {{0, 0, 0}, {half, four, minus, five}, u},
		"Loop N2; Param D16; Out A16; Next; Loop; Next; Loop N1; Next":                                {{0, 0, 0}, z, {0x41200000}},
		"Loop; Load D8 N2; Grad D9; Store A9 N2; Load D10 N2; Add D8 A8 B10; Out A8; Next":            {{one, two, three}, z, u},
		"Loop; Load D8 N7; Out A8; Grad D9; Out A9; Load D8 N7; Finite D8 A8; Out A8; Next":           {{0, 0, 0}, z, u},
		"Number D0 =40800000; Loop; Copy D8 A0; Out A8; Next; Number D0; Out A8":                      {{four, four, four}, z, u},
		"Number D0 =40800000; Whole D4 N1; When A4; Loop; Sqrt D8 A0; Out A8; Next; End":              {{two, two, two}, z, u},
		"Number D0 =40800000; Whole D4; When A4; Loop; Sqrt D8 A0; Out A8; Next; End":                 {{0, 0, 0}, z, u},
		"Grad D8; Copy D9 A8; Loop; Add D8 A8 B9; Store A8 N7; Load D10 N7; Neg D9 A10; Next; Out A9": {{0xc0000000, 0xc0800000, 0xc0c00000}, z, u},
		"Loop; Grad D8; Next; Loop; Add D8 A8 B8; Next; Loop; Out A8; Next; Loop; Neg D8 A8; Next":    {{two, four, six}, z, u},
	} {
		holdUpdates(t, text, want...)
	}
}

// TestUnmarked: VM2 and chapter 17's IN4, a machine for code, and one for it without its loops' marks, tell the same, but that each loop costs
// two less.
func TestUnmarked(t *testing.T) {
	g, loops := &samples.Grower{Source: 10}, 0
	for range 2500 {
		c := g.Code(60)
		less := samples.CloneCode(c)
		less.List = slices.DeleteFunc(less.List, func(i api.Inst) bool { return i.Op == api.OpLoop || i.Op == api.OpNext })
		loops += len(c.List) - len(less.List)
		m, other := begin(t, c), begin(t, less)
		for range 3 {
			grads, params := g.Vectors(c.Sign), g.Vectors(c.Sign)
			u, v := stepped(t, m, grads, params), stepped(t, other, grads, params)
			if !same(u, v) || !slices.Equal(m.State(), other.State()) {
				t.Fatalf("%08x, without marks %08x: %s", u, v, samples.Show(c))
			}
			if more := m.Spent() - other.Spent(); more < 0 || more%2 != 0 || more > len(c.List)-len(less.List) {
				t.Errorf("the marks cost %d: %s", more, samples.Show(c))
			}
		}
	}
	if loops < 2000 {
		t.Errorf("only %d marks", loops)
	}
}
