package prune

import (
	"slices"
	"testing"

	"lathe/api"
)

// TestBlocks: PN1, the two marks of a block are needed where something within it is, and what its OpWhen reads with them.
func TestBlocks(t *testing.T) {
	holdStays(t, "Load D4 N1; When A4; Grad D8; Out A8; End")
	holdStays(t, "Load D4 N1; Grad D8; When A4; Out A8; End")
	holdStays(t, "Load D0; Test D4 A0; When A4; Grad D8; Out A8; End")
	holdStays(t, "Loop; Grad D8; Out A8; Next")
	holdStays(t, "Grad D12; Loop N1; Out A12 N1; Next")
	holdLeft(t, "Load D4 N1; Grad D8; When A4; Neg D9 A8; End; Out A8", "Grad D8; Out A8")
	holdLeft(t, "Grad D8; Loop; Neg D9 A8; Next; Out A8; Loop N2; Next", "Grad D8; Out A8")
	holdLeft(t, "Load D4 N1; When A4; End; When A4; Grad D8; Neg D9 A8; Out A8; End; When A4; Grad D9; End", "Load D4 N1; When A4; Grad D8; Out A8; End")
	holdLeft(t, "Loop; Grad D8; Next; Loop; Grad D9; Next; Loop N1; Grad D12; Next; Out A8", "Loop; Grad D8; Next; Out A8")
}

// TestBlocksInBlocks: PN1, of blocks within blocks all are needed around what is needed, and no others.
func TestBlocksInBlocks(t *testing.T) {
	ahead := "Load D4 N1; Load D5 N6; Grad D8; Param D9;"
	holdLeft(t, ahead+"When A4; When A5; Out A8; End; End", "Load D4 N1; Load D5 N6; Grad D8; When A4; When A5; Out A8; End; End")
	holdLeft(t, ahead+"When A4; When A5; Neg D9 A8; End; Out A8; End", "Load D4 N1; Grad D8; When A4; Out A8; End")
	holdLeft(t, ahead+"When A4; Out A8; When A5; Neg D9 A8; End; End", "Load D4 N1; Grad D8; When A4; Out A8; End")
	holdLeft(t, ahead+"When A4; When A5; Neg D9 A8; End; End; Out A8", "Grad D8; Out A8")
	holdLeft(t, ahead+"When A5; Out A9; When A4; End; End; When A4; When A5; End; End", "Load D5 N6; Param D9; When A5; Out A9; End")
	holdLeft(t, ahead+"When A4; Loop; Neg D10 A8; Next; Loop; Abs D11 A9; Out A11; Next; End", "Load D4 N1; Param D9; When A4; Loop; Abs D11 A9; Out A11; Next; End")
	holdLeft(t, ahead+"When A4; Loop; Neg D10 A8; Next; Out A9; End", "Load D4 N1; Param D9; When A4; Out A9; End")
	holdLeft(t, ahead+"When A4; When A5; When A4; Neg D10 A8; End; Not D6 A4; End; When A5; Out A8; End; End", "Load D4 N1; Load D5 N6; Grad D8; When A4; When A5; Out A8; End; End")
	holdLeft(t, ahead+"When A4; Not D6 A4; When A6; Whole D7; When A7; Neg D9 A8; End; End; When A6; When A4; Out A9; End; End; End",
		"Load D4 N1; Grad D8; Param D9; When A4; Not D6 A4; When A6; Whole D7; When A7; Neg D9 A8; End; End; When A6; When A4; Out A9; End; End; End")
}

// TestBlocksOnThemselves: PN1, blocks whose OpWhen reads what only that block hangs on.
func TestBlocksOnThemselves(t *testing.T) {
	holdLeft(t, "Grad D8; Out A8; Load D4 N1; Not D5 A4; When A5; Whole D6 N1; Store A6 N1; End", "Grad D8; Out A8") // what is done once
	holdStays(t, "Load D4 N1; Not D5 A4; When A5; Whole D6 N1; Store A6 N1; Grad D8; Out A8; End")
	holdLeft(t, "Grad D8; Out A8; Load D4 N1; When A4; When A4; Minus D5 A4 B4; Store A5 N1; End; End", "Grad D8; Out A8")
	holdLeft(t, "Grad D8; Out A8; Whole D4 N1; When A4; Whole D4; End", "Grad D8; Out A8")
	holdStays(t, "Grad D8; Whole D4 N1; When A4; Whole D4; End; When A4; Out A8; End")
	holdLeft(t, "Grad D8; Load D4 N1; Load D5 N6; When A4; Inc D5 A5; Store A5 N6; End; When A5; Not D4 A4; Store A4 N1; End; Out A8", "Grad D8; Out A8") // each leads to the other
	holdStays(t, "Grad D8; Load D4 N1; Load D5 N6; When A4; Inc D5 A5; Store A5 N6; End; When A5; Not D4 A4; Store A4 N1; Out A8; End")
}

// TestRestOfBlock: PN1, what else stands in a block that is needed is not needed with it, whichever instruction it is.
func TestRestOfBlock(t *testing.T) {
	for _, rest := range []string{
		"Number D0 =3f800000", "Whole D5 N1", "Copy D9 A8", "Add D9 A8 B8", "Load D0", "Store A8 N2", "Not D5 A4", "Grad D9", "Param D12 N1", "Sum D0 A8", "When A4; End", "When A4; Store A8 N2; End",
		"Loop; Next", "Loop; Grad D9; Store A9 N7; Next", "Load D9 N2; Store A9 N2",
	} {
		left := "Load D4 N1; Grad D8; When A4; Out A8; End"
		holdLeft(t, "Load D4 N1; Grad D8; When A4; "+rest+"; Out A8; End", left)
		holdLeft(t, "Load D4 N1; Grad D8; When A4; Out A8; "+rest+"; End", left)
		holdLeft(t, "Load D4 N1; Grad D8; "+rest+"; When A4; Out A8; End; "+rest, left)
	}
	for _, rest := range []string{"Grad D9", "Neg D9 A8", "Load D9 N7", "Store A8 N2", "Load D9 N2; Store A9 N2"} {
		holdLeft(t, "Grad D8; Loop; "+rest+"; Out A8; "+rest+"; Next", "Grad D8; Loop; Out A8; Next")
	}
}

// TestNumbers: PN1, registers and slots are numbered anew from 0 on in the order that they had, with their types, Keep, Bits and Int.
func TestNumbers(t *testing.T) {
	c := usual("Load D14 N8; Out A14 N1; Load D17 N4; Out A17; Load D5 N6; Inc D7 A5; Store A7 N6; From D3 A7; Copy D9 A3; Loop; Abs D10 A9; Out A10; Next; Number D1; Store A1 N5; Store A1")
	c.Slots[4].Bits, c.Slots[6].Int, c.Slots[8].Bits = 0x80000000, 1<<31-1, 0x7fc00000
	want := api.Code{Sign: c.Sign, Slots: []api.Slot{c.Slots[4], c.Slots[6], c.Slots[8]}}
	for _, register := range []int{3, 5, 7, 9, 10, 14, 17} {
		want.Regs = append(want.Regs, c.Regs[register])
	}
	want.List = read("Load D5 N2; Out A5 N1; Load D6 N0; Out A6; Load D1 N1; Inc D2 A1; Store A2 N1; From D0 A2; Copy D3 A0; Loop; Abs D4 A3; Out A4; Next")
	d := pruned(t, c)
	if !slices.Equal(d.Sign, want.Sign) || !slices.Equal(d.Regs, want.Regs) || !slices.Equal(d.Slots, want.Slots) || !slices.Equal(d.List, want.List) {
		t.Errorf("%v, want %v", d, want)
	}
}

// TestEachNumber: PN1, each register and each slot alone is left, as the first one, with all that it has.
func TestEachNumber(t *testing.T) {
	c := usual("")
	for n := range c.Slots {
		c.Slots[n].Bits = api.F(0x3f800000 + n)
		if c.Slots[n].Type.Kind == 2 {
			c.Slots[n].Bits, c.Slots[n].Int = 0, 100+n
		}
	}
	ends := []string{"Copy D1 A0; Out A1", "From D1 A0; Copy D2 A1; Out A2", "Out A0"}
	for n, s := range c.Slots {
		c.Regs = append(slices.Repeat([]api.Type{{Kind: 2}}, n), s.Type, api.Type{Kind: 1}, api.Type{Kind: 3})
		kind := s.Type.Kind
		if kind == 1 {
			c.Regs[n+1].Kind = 3
		}
		want := api.Code{Sign: c.Sign, Slots: []api.Slot{s}, Regs: c.Regs[n : n+[]int{2, 3, 1}[kind-1]], List: append(read("Load D0"), read(ends[kind-1])...)}
		c.List = slices.Clone(want.List)
		for at := range c.List {
			i := &c.List[at]
			i.D, i.A = i.D+n, i.A+n
			switch i.Op {
			case api.OpLoad:
				i.A, i.N = 0, n
			case api.OpOut:
				i.D = 0
			}
		}
		d := pruned(t, c)
		if !slices.Equal(d.Regs, want.Regs) || !slices.Equal(d.Slots, want.Slots) || !slices.Equal(d.List, want.List) {
			t.Errorf("slot %d: %v, want %v", n, d, want)
		}
	}
}
