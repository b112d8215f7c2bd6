package prune

import "testing"

// TestSetAgain: PN1, of a register that is set more than once each setting is needed where one is read, ahead of that and behind it.
func TestSetAgain(t *testing.T) {
	holdStays(t, "Grad D8; Param D8; Out A8")
	holdStays(t, "Grad D8; Out A8; Param D8")
	holdStays(t, "Grad D8; Neg D8 A8; Abs D8 A8; Out A8; Sqrt D8 A8")
	holdStays(t, "Number D0 =3f800000; Copy D8 A0; Out A8; Number D0; Neg D0 A0")
	holdStays(t, "Grad D8; Out A8; Load D0; Neg D1 A0; Copy D8 A1")
	holdLeft(t, "Grad D8; Grad D9; Neg D9 A9; Abs D9 A9; Out A8", "Grad D8; Out A8") // it leads to itself alone
	holdLeft(t, "Grad D8; Param D9; Out A8; Neg D8 A8; Neg D9 A8; Neg D9 A9", "Grad D8; Out A8; Neg D8 A8")
	holdLeft(t, "Number D0; Copy D8 A0; Number D1; Copy D0 A1; Out A8; Number D1 =3f800000; Number D2; Copy D2 A0", "Number D0; Copy D8 A0; Number D1; Copy D0 A1; Out A8; Number D1 =3f800000")
}

// TestSetInBlocks: PN1, settings in blocks, behind them and ahead of them; the marks of the blocks are needed with them.
func TestSetInBlocks(t *testing.T) {
	holdStays(t, "Load D4 N1; Grad D8; When A4; Param D8; End; Out A8")
	holdStays(t, "Load D4 N1; Grad D8; Out A8; When A4; Param D8; End")
	holdStays(t, "Load D4 N1; When A4; Grad D8; Out A8; End; Param D8")
	holdStays(t, "Load D4 N1; When A4; Grad D8; Out A8; End; When A4; Param D8; End")
	holdStays(t, "Load D4 N1; Grad D8; When A4; When A4; Param D8; End; End; Out A8")
	holdLeft(t, "Load D4 N1; Grad D8; When A4; Param D8; Param D9; End; When A4; Grad D9; End; Out A8", "Load D4 N1; Grad D8; When A4; Param D8; End; Out A8")
	holdLeft(t, "Load D4 N1; Grad D9; When A4; Grad D8; Out A8; Neg D9 A8; End; Param D8; Neg D9 A9", "Load D4 N1; When A4; Grad D8; Out A8; End; Param D8")
	holdStays(t, "Whole D4 N1; Grad D8; When A4; Whole D4; Out A8; End; Whole D4 N2")
	holdStays(t, "Load D4 N1; Not D5 A4; Grad D8; When A4; Param D8; Load D5 N6; End; When A5; Neg D8 A8; End; Out A8")
}

// TestSetInLoops: PN1, settings within loops, behind them and ahead of them.
func TestSetInLoops(t *testing.T) {
	holdStays(t, "Loop; Grad D8; Next; Neg D8 A8; Out A8")
	holdStays(t, "Grad D8; Loop; Param D8; Next; Out A8")
	holdStays(t, "Loop; Grad D8; Out A8; Next; Loop; Param D8; Next")
	holdStays(t, "Grad D8; Out A8; Loop; Grad D8; Neg D8 A8; Next; Param D8")
	holdLeft(t, "Grad D8; Loop; Param D8; Grad D9; Next; Out A8; Loop; Neg D9 A9; Next; Loop; Neg D8 A8; Next", "Grad D8; Loop; Param D8; Next; Out A8; Loop; Neg D8 A8; Next")
	holdStays(t, "Load D4 N1; Grad D8; When A4; Loop; Param D8; Next; End; Out A8")
	holdLeft(t, "Load D4 N1; Grad D8; When A4; Loop; Param D8; Next; Loop N1; Grad D12; Next; End; Out A8", "Load D4 N1; Grad D8; When A4; Loop; Param D8; Next; End; Out A8")
}

// TestSlots: PN1, slots that are loaded and stored: where an OpLoad is needed, each OpStore to its slot is, ahead of it and behind it.
func TestSlots(t *testing.T) {
	holdStays(t, "Load D8 N2; Out A8")
	holdStays(t, "Load D8 N2; Out A8; Grad D9; Store A9 N2")
	holdStays(t, "Grad D8; Store A8 N2; Load D9 N2; Out A9; Param D10; Store A10 N2; Neg D11 A10; Store A11 N2")
	holdStays(t, "Grad D8; Store A8 N7; Load D9 N7; Out A9; Store A9 N7")
	holdLeft(t, "Grad D8; Store A8 N2; Store A8 N7; Load D9 N7; Out A9", "Grad D8; Store A8 N7; Load D9 N7; Out A9")
	holdLeft(t, "Grad D8; Store A8 N2; Out A8; Load D9 N2", "Grad D8; Out A8")
	holdLeft(t, "Load D8 N2; Load D9 N2; Neg D10 A8; Store A10 N2; Out A9", "Load D8 N2; Load D9 N2; Neg D10 A8; Store A10 N2; Out A9")
	holdLeft(t, "Load D8 N2; Neg D8 A8; Load D9 N2; Grad D10; Store A10 N2; Out A9", "Load D9 N2; Grad D10; Store A10 N2; Out A9")
	holdLeft(t, "Load D4 N1; Inc D5 A4; Store A5 N1; Grad D8; Out A8", "Grad D8; Out A8") // a count that nothing asks for
	holdStays(t, "Load D4 N1; Inc D5 A4; Store A5 N1; From D0 A5; Grad D8; Mul D9 A8 B0; Out A9")
}

// TestSlotsInBlocks: PN1, slots that are stored to in blocks and loops, the marks of which are needed with them.
func TestSlotsInBlocks(t *testing.T) {
	holdStays(t, "Load D4 N1; When A4; Grad D8; Store A8 N2; End; Load D9 N2; Out A9")
	holdStays(t, "Load D4 N1; Grad D8; When A4; Store A8 N2; End; Load D9 N2; Out A9")
	holdStays(t, "Load D4 N1; Grad D8; When A4; Load D8 N7; End; Out A8")
	holdStays(t, "Load D8 N2; Out A8; Load D4 N1; When A4; Grad D9; Store A9 N2; End; Load D5 N6; When A5; Param D9; Store A9 N2; End")
	holdStays(t, "Load D8 N2; Out A8; Loop; Grad D9; Store A9 N2; Next")
	holdStays(t, "Load D4 N1; When A4; Load D8 N2; Out A8; End; Grad D9; Store A9 N2; Not D5 A4; When A5; Loop; Load D10 N7; Store A10 N2; Next; End")
	holdLeft(t, "Load D4 N1; When A4; Load D8 N2; End; Grad D9; Store A9 N2; Out A9", "Grad D9; Out A9")
	holdLeft(t, "Load D4 N1; When A4; Grad D8; Store A8 N7; End; When A4; Param D8; Store A8 N2; End; Load D9 N2; Out A9",
		"Load D4 N1; When A4; Grad D8; End; When A4; Param D8; Store A8 N2; End; Load D9 N2; Out A9") // the register is set there too
	holdLeft(t, "Load D4 N1; When A4; Grad D8; Store A8 N7; End; When A4; Param D10; Store A10 N2; End; Load D9 N2; Out A9", "Load D4 N1; When A4; Param D10; Store A10 N2; End; Load D9 N2; Out A9")
}

// TestSlotsByOneAnother: PN1, slots that are needed by way of others, and such as lead to themselves or one another alone.
func TestSlotsByOneAnother(t *testing.T) {
	holdStays(t, "Load D0; Store A0 N5; Load D1 N5; Copy D8 A1; Out A8")
	holdStays(t, "Load D8 N7; Out A8; Load D9 N2; Store A9 N7; Grad D10; Store A10 N2") // each step hands on what the one ahead of it stored
	holdStays(t, "Load D4 N1; When A4; Load D8 N2; Out A8; End; Load D0; Test D5 A0; Store A5 N1; Load D9 N7; Sum D1 A9; Store A1")
	holdLeft(t, "Load D0; Store A0 N5; Load D1 N5; Store A1; Grad D8; Out A8", "Grad D8; Out A8")
	holdLeft(t, "Load D0; Load D8 N2; Mul D9 A8 B0; Store A9 N2; Sum D1 A9; Store A1; Grad D10; Out A10; Store A10 N7", "Grad D10; Out A10")
	holdLeft(t, "Load D0; Load D8 N2; Mul D9 A8 B0; Store A9 N2; Load D5 N1; Inc D5 A5; Store A5 N1; Sum D1 A9; Store A1; Grad D10; Mul D10 A10 B0; Out A10",
		"Load D0; Load D8 N2; Mul D9 A8 B0; Store A9 N2; Sum D1 A9; Store A1; Grad D10; Mul D10 A10 B0; Out A10")
	holdLeft(t, "Load D4 N1; Load D5 N6; Store A4 N6; Store A5 N1; Load D12 N3; Out A12; Load D13 N8; Store A13 N3; Store A12 N8", "Load D12 N3; Out A12; Load D13 N8; Store A13 N3; Store A12 N8")
}
