package fuse

import (
	"slices"
	"testing"
)

// TestVectorsAgain: FU2, vectors that are set more than once keep the order of what sets and reads them.
func TestVectorsAgain(t *testing.T) {
	for _, x := range [][2]string{
		{"Grad D8; Out A8; Param D8; Store A8 N2", "Loop; Grad D8; Out A8; Param D8; Store A8 N2; Next"},
		{"Grad D8; Neg D9 A8; Param D8; Add D9 A9 B8; Out A9", "Loop; Grad D8; Neg D9 A8; Param D8; Add D9 A9 B8; Out A9; Next"},
		{"Grad D8; Sum D0 A8; Param D8; Sum D1 A8; Out A8", "Loop; Grad D8; Next; Sum D0 A8; Loop; Param D8; Next; Sum D1 A8; Loop; Out A8; Next"},
		{"Grad D8; Sum D0 A8; Param D8; Out A8", "Loop; Grad D8; Next; Sum D0 A8; Loop; Param D8; Out A8; Next"},
		{"Grad D8; Param D9; Neg D8 A9; Sum D0 A9; Out A8", "Loop; Grad D8; Param D9; Neg D8 A9; Next; Sum D0 A9; Loop; Out A8; Next"},
		{"Grad D8; Grad D8; Grad D8; Least D0 A8; Grad D8", "Loop; Grad D8; Grad D8; Grad D8; Next; Least D0 A8; Loop; Grad D8; Next"},
		{"Loop; Grad D8; Next; Loop; Out A8; Next; Loop; Param D8; Next; Store A8 N2", "Loop; Grad D8; Out A8; Param D8; Store A8 N2; Next"},
	} {
		holdList(t, x[0], x[1])
	}
}

// TestNumbersAgain: FU2, numbers that are set more than once: one that a loop has read goes behind it, one that it has not read ahead of it.
func TestNumbersAgain(t *testing.T) {
	for _, x := range [][2]string{
		{"Number D0 =3f800000; Copy D8 A0; Number D0 =40000000; Out A8", "Number D0 =3f800000; Loop; Copy D8 A0; Next; Number D0 =40000000; Loop; Out A8; Next"},
		{"Number D0 =3f800000; Copy D8 A0; Number D0 =40000000; Copy D9 A0; Out A8; Store A9 N2", "Number D0 =3f800000; Loop; Copy D8 A0; Next; Number D0 =40000000; Loop; Copy D9 A0; Out A8; Store A9 N2; Next"},
		{"Number D0; Grad D8; Number D0 =40000000; Mul D8 A8 B0; Out A8", "Number D0; Number D0 =40000000; Loop; Grad D8; Mul D8 A8 B0; Out A8; Next"},
		{"Number D0 =3f800000; Copy D8 A0; Grad D16; Number D0 =40000000; Mul D16 A16 B0; Out A16; Out A8", "Number D0 =3f800000; Loop; Copy D8 A0; Next; Number D0 =40000000; Loop; Out A8; Next; Loop N2; Grad D16; Mul D16 A16 B0; Out A16; Next"},
		{"Number D0 =3f800000; Copy D8 A0; Copy D16 A0; Neg D0 A0; Store A0; Out A8; Out A16", "Number D0 =3f800000; Loop; Copy D8 A0; Next; Loop N2; Copy D16 A0; Next; Neg D0 A0; Store A0; Loop; Out A8; Next; Loop N2; Out A16; Next"},
		{"Number D0 =3f800000; Copy D8 A0; Neg D1 A0; Store A1; Out A8", "Number D0 =3f800000; Neg D1 A0; Store A1; Loop; Copy D8 A0; Out A8; Next"},
		{"Grad D8; Sum D0 A8; Mul D8 A8 B0; Sum D0 A8; Mul D8 A8 B0; Out A8", "Loop; Grad D8; Next; Sum D0 A8; Loop; Mul D8 A8 B0; Next; Sum D0 A8; Loop; Mul D8 A8 B0; Out A8; Next"},
		{"Grad D8; Number D0; Select D9 A8 B0 C8; Number D1; Select D9 A1 B9 C0; Number D0 =3f800000; Select D9 A0 B9 C8; Out A9",
			"Number D0; Number D1; Loop; Grad D8; Select D9 A8 B0 C8; Select D9 A1 B9 C0; Next; Number D0 =3f800000; Loop; Select D9 A0 B9 C8; Out A9; Next"},
		{"Number D0; Number D1; Number D2; Select D8 A0 B1 C2; Number D2 =3f800000; Out A8; Select D8 A0 B1 C2; Number D1 =3f800000; Out A8; Select D8 A0 B1 C2; Number D0 =3f800000; Out A8",
			"Number D0; Number D1; Number D2; Loop; Select D8 A0 B1 C2; Next; Number D2 =3f800000; Loop; Out A8; Select D8 A0 B1 C2; Next; Number D1 =3f800000; Loop; Out A8; Select D8 A0 B1 C2; Next; Number D0 =3f800000; Loop; Out A8; Next"},
	} {
		holdList(t, x[0], x[1])
	}
}

// TestNoughtIsNone: FU2, a field that a row does not name is 0, and means no register.
func TestNoughtIsNone(t *testing.T) {
	holdList(t, "Load D0; Copy D8 A0; Store A0 N5; Load D4 N1; Store A4 N1; Out A8", "Load D0; Store A0 N5; Load D4 N1; Store A4 N1; Loop; Copy D8 A0; Out A8; Next")
	c := usual("")
	c.Regs[0], c.Regs[8] = c.Regs[8], c.Regs[0] // so that the register 0 is a vector
	c.List = read("Grad D0; Number D1; Whole D4 N1; Load D2; Out A0")
	if d := holdUsual(t, c); !slices.Equal(d.List, read("Number D1; Whole D4 N1; Load D2; Loop; Grad D0; Out A0; Next")) {
		t.Errorf("%s", listed(d.List))
	}
}

// TestSlotsAgain: FU2, slots that are loaded and stored more than once keep the order of that, in loops and across them.
func TestSlotsAgain(t *testing.T) {
	for _, x := range [][2]string{
		{"Grad D8; Store A8 N2; Load D9 N2; Out A9; Param D8; Store A8 N2", "Loop; Grad D8; Store A8 N2; Load D9 N2; Out A9; Param D8; Store A8 N2; Next"},
		{"Load D8 N2; Grad D9; Store A9 N2; Load D10 N2; Sub D11 A8 B10; Store A11 N2; Out A10", "Loop; Load D8 N2; Grad D9; Store A9 N2; Load D10 N2; Sub D11 A8 B10; Store A11 N2; Out A10; Next"},
		{"Load D8 N2; Sum D0 A8; Store A8 N7; Copy D9 A0; Store A9 N2; Load D10 N7; Load D11 N2; Out A10; Store A11 N7", "Loop; Load D8 N2; Next; Sum D0 A8; Loop; Store A8 N7; Copy D9 A0; Store A9 N2; Load D10 N7; Load D11 N2; Out A10; Store A11 N7; Next"},
		{"Load D8 N2; Load D0; Load D16 N4; Store A0 N5; Load D1 N5; Store A8 N7; Store A16 N9; Store A1; Load D9 N7; Load D17 N9; Out A9; Out A17",
			"Load D0; Store A0 N5; Load D1 N5; Store A1; Loop; Load D8 N2; Store A8 N7; Load D9 N7; Out A9; Next; Loop N2; Load D16 N4; Store A16 N9; Load D17 N9; Out A17; Next"},
		{"Loop; Load D8 N2; Next; Loop; Neg D8 A8; Store A8 N2; Next; Loop; Load D9 N2; Store A9 N7; Next", "Loop; Load D8 N2; Neg D8 A8; Store A8 N2; Load D9 N2; Store A9 N7; Next"},
		{"Load D4 N1; Load D8 N2; When A4; Neg D8 A8; Store A8 N2; Load D9 N2; Store A9 N7; End; Load D10 N2; Out A10; Store A8 N2; Load D11 N7; Store A11 N2",
			"Load D4 N1; Loop; Load D8 N2; Next; When A4; Loop; Neg D8 A8; Store A8 N2; Load D9 N2; Store A9 N7; Next; End; Loop; Load D10 N2; Out A10; Store A8 N2; Load D11 N7; Store A11 N2; Next"},
	} {
		holdList(t, x[0], x[1])
	}
}

// TestOutAgain: FU2, updates that are made more than once: the last one counts, of each part by itself.
func TestOutAgain(t *testing.T) {
	holdList(t, "Grad D8; Out A8; Param D9; Out A9; Sum D0 A8; Copy D10 A0; Out A10; Out A8", "Loop; Grad D8; Out A8; Param D9; Out A9; Next; Sum D0 A8; Loop; Copy D10 A0; Out A10; Out A8; Next")
	holdList(t, "Grad D12; Out A12; Out A12 N1; Param D13 N1; Number D0; Out A13; Mul D14 A13 B0; Out A14 N1; Out A12", "Number D0; Loop N1; Grad D12; Out A12; Out A12 N1; Param D13 N1; Out A13; Mul D14 A13 B0; Out A14 N1; Out A12; Next")
	holdList(t, "Load D4 N1; Grad D8; Out A8; When A4; Param D9; Out A9; End; Load D10 N2; Out A10; When A4; Out A8; End",
		"Load D4 N1; Loop; Grad D8; Out A8; Next; When A4; Loop; Param D9; Out A9; Next; End; Loop; Load D10 N2; Out A10; Next; When A4; Loop; Out A8; Next; End")
}
