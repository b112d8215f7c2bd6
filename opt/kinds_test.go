package opt

import (
	"slices"
	"strings"
	"testing"

	"lathe/alike"
	"lathe/api"
	"lathe/samples"
)

// TestNothing: OP1 to OP4, code without anything; with parameters, registers or slots alone; with marks alone.
func TestNothing(t *testing.T) {
	v := api.Type{Kind: 3}
	w := []api.Param{{Name: "w", Kind: 1, Len: 1}}
	for n, c := range []api.Code{
		{},
		{Sign: []api.Param{}, Regs: []api.Type{}, Slots: []api.Slot{}, List: []api.Inst{}},
		{Sign: w},
		{Sign: []api.Param{{Name: "z", Kind: 2, Len: 3}, w[0]}},
		{Regs: []api.Type{{Kind: 1}, {Kind: 2}}},
		{Slots: []api.Slot{{Type: api.Type{Kind: 1}, Keep: true, Bits: 0x7fc00000}, {Type: api.Type{Kind: 2}, Keep: true, Int: 1<<31 - 1}, {Type: api.Type{Kind: 2}}}},
		{Sign: w, Regs: []api.Type{v}, Slots: []api.Slot{{Type: v, Keep: true}}},
		{Sign: w, List: read("Loop; Next; Loop; Next")},
		{Regs: []api.Type{{Kind: 2}}, List: read("Whole N1; When; When; End; End; When; End")},
		usual(""),
	} {
		hold(t, &samples.Grower{Source: 4}, c, 2)
		if d := ran(t, c, 31); len(d.List)+len(d.Regs)+len(d.Slots) > 0 || !slices.Equal(d.Sign, c.Sign) {
			t.Errorf("%d: %s", n, samples.Show(d))
		}
	}
}

// TestWithoutUpdates: OP1 to OP4, code that keeps this and that, and hands nothing out: behind prune there is nothing left of it.
func TestWithoutUpdates(t *testing.T) {
	for _, text := range []string{
		"Load D4 N1; Inc D4 A4; Store A4 N1", "Grad D8; Load D9 N2; Add D10 A8 B9; Store A10 N2; Sum D0 A10; Store A0", "Number D0 =3f800000; Whole D4 N7; Copy D1 A0; Copy D5 A4; Store A1; Store A5 N1",
		"Load D4 N1; When A4; Grad D12 N1; Store A12 N3; End", "Loop N2; Param D16; Load D17 N4; Max D16 A16 B17; Store A16 N4; Next",
	} {
		holdUsual(t, text)
		for choice := range subsets {
			if d := ran(t, usual(text), choice); choice&passPrune != 0 && len(d.List)+len(d.Regs)+len(d.Slots) > 0 {
				t.Errorf("passes %d: %s became %s", choice, text, samples.Show(d))
			}
		}
	}
}

// TestWithoutSlots: OP1 to OP4, code that has no slots.
func TestWithoutSlots(t *testing.T) {
	for _, text := range []string{
		"Grad D8; Out A8", "Grad D12; Grad D13 N1; Neg D14 A13; Out A12; Out A14 N1", "Number D0 =3f000000; Grad D16; Mul D17 A16 B0; Out A17", "Param D8; Grad D9; Sum D0 A9; Least D1 A8; Div D2 A0 B1; Mul D10 A9 B2; Out A10",
		"Grad D8; Least D0 A8; Test D4 A0; When A4; Neg D9 A8; Out A9; End; Not D5 A4; When A5; Out A8; End",
		"Number D0 =3f800000; Number D1 =3f000000; Whole D4 N3; Power D2 A1 B4; Select D3 A0 B2 C1; Grad D8; Mul D8 A8 B3; Out A8; Grad D12 N1; Mul D12 A12 B0; Out A12",
	} {
		for n := range 2 {
			c := usual(text)
			c.Slots = nil
			if n == 1 {
				c.Sign[0].Len, c.Sign[1].Len = 1, 1
			}
			hold(t, &samples.Grower{Source: 5}, c, 6)
		}
	}
}

// TestSetAgain: OP1 to OP4, registers that are set more than once: one behind the other, on two ways, in loops, from themselves.
func TestSetAgain(t *testing.T) {
	for _, text := range []string{
		"Grad D8; Neg D8 A8; Abs D8 A8; Out A8", "Number D0 =3f800000; Grad D8; Mul D9 A8 B0; Number D0 =40000000; Mul D9 A9 B0; Out A9",
		"Number D0 =3f800000; Load D4 N1; When A4; Number D0 =40000000; End; Grad D8; Mul D8 A8 B0; Out A8", "Number D0 =3f800000; Load D4 N1; When A4; Number D0 =3f800000; End; Grad D8; Mul D8 A8 B0; Out A8",
		"Whole D4 N1; Whole D4; When A4; Grad D8; Out A8; End", "Whole D4; Whole D4; When A4; Grad D8; Out A8; End", "Load D4 N1; Whole D5 N2; When A4; Copy D5 A4; End; From D0 A5; Copy D8 A0; Out A8; Inc D4 A4; Store A4 N1",
		"Grad D8; Copy D9 A8; Neg D8 A8; Out A9", "Grad D8; Copy D9 A8; Param D9; Out A9; Store A8 N2; Load D8 N2; Out A8", "Grad D8; Param D9; Add D10 A8 B9; Param D8; Add D11 A8 B9; Sub D10 A10 B11; Out A10",
		"Loop; Grad D8; Load D9 N2; Add D9 A8 B9; Store A9 N2; Mul D9 A9 B9; Out A9; Next; Sum D0 A9; Loop; Div D9 A9 B0; Out A9; Next", "Grad D12; Out A12; Grad D12 N1; Out A12 N1; Param D12; Out A12",
		"Load D4 N1; Grad D8; When A4; Grad D9; When A4; Neg D8 A9; Copy D9 A8; End; Sub D8 A9 B8; End; Out A8; Inc D4 A4; Store A4 N1",
	} {
		holdUsual(t, text)
	}
}

// TestInBlocks: OP1 to OP4, blocks in one another, which are done, left out, or always the one or the other, some empty, with loops in them;
// what is handed out of them goes by slots.
func TestInBlocks(t *testing.T) {
	for _, text := range []string{
		"Load D4 N1; When A4; Grad D8; Out A8; End; Inc D4 A4; Store A4 N1", "Load D4 N1; Not D5 A4; When A4; When A5; Grad D8; Out A8; End; Param D8; Out A8; End; Store A5 N1",
		"Whole D4 N1; When A4; Whole D5; When A5; Grad D8; Out A8; End; When A4; Param D8; Out A8; End; End", "Load D4 N1; When A4; Whole D5; When A5; End; When A4; When A4; End; End; End; Grad D8; Out A8",
		"Load D4 N1; When A4; Loop; Grad D8; Neg D9 A8; Store A9 N7; Next; Loop N1; Grad D12; Out A12; Next; End; Load D8 N7; Out A8", "Load D4 N1; Grad D8; When A4; Grad D9; Sum D0 A9; Store A0 N5; End; Load D1 N5; Sum D2 A8; Add D3 A1 B2; Copy D10 A3; Out A10",
		"Load D4 N1; When A4; Number D0 =3f800000; Grad D8; Mul D9 A8 B0; Store A9 N7; End; Not D5 A4; When A5; Number D1 =3f800000; Param D8; Mul D9 A8 B1; Store A9 N7; End; Load D10 N7; Out A10; Store A5 N1",
		strings.Repeat("Load D4 N1; When A4; Grad D8; Out A8; Loop; Next;", 30) + strings.Repeat("Neg D9 A8; Out A9; End;", 30),
	} {
		holdUsual(t, text)
	}
}

// TestInLoops: OP1 to OP4, code with loops already: some of one instruction, some of none, neighbours, some that fuse would lay out otherwise.
func TestInLoops(t *testing.T) {
	for _, text := range []string{
		"Loop; Grad D8; Next; Loop; Neg D9 A8; Next; Loop; Out A9; Next", "Loop; Next; Loop N1; Next; Loop; Grad D8; Out A8; Next; Loop; Next", "Grad D8; Loop; Neg D8 A8; Next; Out A8; Loop N2; Grad D16; Out A16; Next; Loop; Out A8; Next",
		"Number D0 =3f800000; Loop; Grad D8; Mul D9 A8 B0; Copy D10 A9; Out A10; Next; Number D1 =40000000; Loop; Mul D11 A8 B1; Store A11 N2; Next", "Loop N1; Grad D12; Grad D13 N1; Mul D14 A12 B13; Out A14; Out A14 N1; Next; Sum D0 A14; Store A0",
		"Loop; Grad D8; Grad D9; Add D10 A8 B9; Next; Loop N2; Param D16; Next; Loop; Out A10; Next; Loop N2; Out A16; Next", "Number D0 =3f000000; Loop; Copy D8 A0; Out A8; Next; Loop; Add D9 A0 B0; Out A9; Next", "Load D4 N1; When A4; Loop; Next; End",
	} {
		holdUsual(t, text)
	}
}

// TestEveryOp: OP1 to OP4, code with an instruction of each Op; over parameters of length 1, and of the greatest one.
func TestEveryOp(t *testing.T) {
	for _, length := range []int{1, 2, 3, 64, 4096} {
		c := samples.EveryOp()
		for n := range c.Sign {
			c.Sign[n].Len = length
		}
		w := hold(t, &samples.Grower{Source: 7}, c, 6)
		if ops := samples.Counts(w.codes[0]); len(ops) != 37 {
			t.Errorf("only %d instructions", len(ops))
		}
	}
}

// TestParameters: OP1 to OP4, code of the same kind over one parameter, real or complex, of few elements or many, and over as many as may be.
func TestParameters(t *testing.T) {
	var sign []api.Param
	for n := range 64 {
		sign = append(sign, api.Param{Name: "p/" + string(rune('a'+n%26)) + string(rune('a'+n/26)), Kind: 1 + n%2, Len: 1 + n*n%7})
	}
	for _, list := range [][]api.Param{
		{{Name: "w", Kind: 1, Len: 1}}, {{Name: "z", Kind: 2, Len: 1}}, {{Name: "w", Kind: 1, Len: 4096}}, {{Name: "z", Kind: 2, Len: 4096}}, {{Name: "a", Kind: 2, Len: 1}, {Name: "b", Kind: 1, Len: 1}}, sign,
	} {
		hold(t, &samples.Grower{Source: 8}, momentum(list), 4)
	}
}

// momentum is code that adds up the gradients, part by part, and hands the sums out by the norm of all gradients.
func momentum(list []api.Param) api.Code {
	c := api.Code{Sign: list}
	set := func(param int, op, a, b, n int) int {
		t := api.Type{Kind: api.TypeNumber}
		if param >= 0 {
			t = api.Type{Kind: api.TypeVector, Param: param}
		}
		c.Regs = append(c.Regs, t)
		c.List = append(c.List, api.Inst{Op: op, D: len(c.Regs) - 1, A: a, B: b, N: n})
		return len(c.Regs) - 1
	}
	total := set(-1, api.OpNumber, 0, 0, 0)
	for p, param := range list {
		for part := range param.Kind {
			grad := set(p, api.OpGrad, 0, 0, part)
			total = set(-1, api.OpAdd, total, set(-1, api.OpSum, set(p, api.OpMul, grad, grad, 0), 0, 0), 0)
		}
	}
	norm := set(-1, api.OpSqrt, total, 0, 0)
	for p, param := range list {
		for part := range param.Kind {
			c.Slots = append(c.Slots, api.Slot{Type: api.Type{Kind: api.TypeVector, Param: p}, Keep: true})
			slot := len(c.Slots) - 1
			sum := set(p, api.OpAdd, set(p, api.OpGrad, 0, 0, part), set(p, api.OpLoad, 0, 0, slot), 0)
			c.List = append(c.List, api.Inst{Op: api.OpStore, A: sum, N: slot}, api.Inst{Op: api.OpOut, A: set(p, api.OpDiv, sum, norm, 0), N: part})
		}
	}
	return c
}

// holdKept: P5, the kept slots that each choice of the passes leaves go on to hold what they hold in the code as it is, step after step; and in
// a step whatever they hold at its beginning. Each slot begins with something of its own, by which it is found again.
func holdKept(t *testing.T, g *samples.Grower, c api.Code, steps int) {
	t.Helper()
	c = samples.CloneCode(c)
	for n := range c.Slots {
		if s := &c.Slots[n]; s.Type.Kind == 2 {
			s.Int = n
		} else {
			s.Bits = 0x3f800000 + api.F(n)<<12
		}
	}
	for choice := range subsets {
		d := ran(t, c, choice)
		var both []alike.Both
		for n, s := range d.Slots {
			if s.Keep {
				both = append(both, alike.Both{First: slices.Index(c.Slots, s), Other: n})
			}
		}
		if slices.ContainsFunc(both, func(b alike.Both) bool { return b.First < 0 }) || choice&passPrune == 0 && len(both) != len(alike.Kept(c)) {
			t.Fatalf("passes %d: other slots: %s became %s", choice, samples.Show(c), samples.Show(d))
		}
		if unlike := alike.Throughout(g, c, d, steps, both); unlike != "" {
			t.Fatalf("passes %d: %s", choice, unlike)
		}
	}
}

// TestKept: P5, code that keeps numbers, whole numbers and vectors; that is needed, and that is not.
func TestKept(t *testing.T) {
	for _, text := range []string{
		"Load D8 N2; Grad D9; Add D10 A8 B9; Store A10 N2; Out A10; Load D4 N1; Inc D5 A4; Store A5 N1", "Load D4 N1; Inc D5 A4; Store A5 N1; From D0 A5; Load D1; Mul D2 A0 B1; Store A2; Copy D8 A2; Out A8",
		"Load D12 N3; Out A12; Grad D13 N1; Load D4 N1; When A4; Store A13 N3; End; Not D5 A4; Store A5 N1", "Load D16 N4; Store A16 N9; Load D17 N9; Out A17; Grad D16; Store A16 N4; Load D0; Store A0",
		"Load D0 N5; Store A0; Load D1; Copy D8 A1; Out A8", each,
	} {
		holdKept(t, &samples.Grower{Source: 9}, usual(text), 3)
	}
}
