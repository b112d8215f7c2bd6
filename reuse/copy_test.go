package reuse

import (
	"strings"
	"testing"

	"lathe/samples"
)

// TestCopies: RE3, copies of each type, read by whatever reads a register.
func TestCopies(t *testing.T) {
	for _, c := range [][2]string{
		{"Load D0; Copy D1 A0; Store A1", "Load D0; Store A0"},
		{"Load D4 N1; Copy D5 A4; Store A5 N6", "Load D4 N1; Store A4 N6"},
		{"Load D8 N2; Copy D9 A8; Store A9 N2; Store A9 N7", "Load D8 N2; Store A8 N2; Store A8 N7"},
		{"Grad D12 N1; Copy D13 A12; Out A13; Out A13 N1", "Grad D12 N1; Out A12; Out A12 N1"},
		{"Load D4 N1; Copy D5 A4; When A5; Grad D8; Out A8; End", "Load D4 N1; When A4; Grad D8; Out A8; End"},
		{"Grad D8; Copy D9 A8; Sum D0 A9; Least D1 A9; Store A0; Store A1 N5", "Grad D8; Sum D0 A8; Least D1 A8; Store A0; Store A1 N5"},
		{"Load D0; Copy D1 A0; Load D4 N1; Copy D5 A4; Power D2 A1 B5; From D3 A5; Test D6 A1; Store A2; Store A3 N5; Store A6 N1", "Load D0; Load D4 N1; Power D2 A0 B4; From D3 A4; Test D6 A0; Store A2; Store A3 N5; Store A6 N1"},
		{"Load D4 N1; Load D5 N6; Copy D6 A4; Copy D7 A5; Choose D22 A7 B6 C7; Choose D23 A6 B7 C6; Less2 D24 A6 B7; Store A22 N1; Store A23 N6; When A24; End", "Load D4 N1; Load D5 N6; Choose D22 A5 B4 C5; Choose D23 A4 B5 C4; Less2 D24 A4 B5; Store A22 N1; Store A23 N6; When A24; End"},
		{"Load D0; Grad D8; Param D9; Copy D1 A0; Copy D10 A8; Copy D11 A9; Select D26 A10 B11 C1; Select D27 A1 B10 C11; Select D28 A11 B1 C10; Out A26; Store A27 N2; Store A28 N7", "Load D0; Grad D8; Param D9; Select D26 A8 B9 C0; Select D27 A0 B8 C9; Select D28 A9 B0 C8; Out A26; Store A27 N2; Store A28 N7"},
		{"Grad D8; Copy D9 A8", "Grad D8"}, // nothing reads it
		{"Load D0; Copy D18 A0; Load D4 N1; When A4; Neg D1 A18; Store A1; End", "Load D0; Load D4 N1; When A4; Neg D1 A0; Store A1; End"},
	} {
		holdList(t, c[0], c[1])
	}
}

// TestNamesNothing: RE2, where another register is read instead of the register 0, fields that name no register stay 0.
func TestNamesNothing(t *testing.T) {
	holdList(t, "Load D1; Copy D0 A1; Neg D2 A0; Number D3 =3f800000; Store A0; Store A2 N5; Load D4 N1; When A4; End; Add D18 A3 B0; Store A18", "Load D1; Neg D2 A1; Number D3 =3f800000; Store A1; Store A2 N5; Load D4 N1; When A4; End; Add D18 A3 B1; Store A18")
	holdList(t, "Grad D8; Sum D1 A8; Sum D0 A8; Loop; Neg D9 A8; Mul D10 A0 B9; Out A10; Next; Param D11", "Grad D8; Sum D1 A8; Loop; Neg D9 A8; Mul D10 A1 B9; Out A10; Next; Param D11")
}

// TestChainsOfCopies: RE3, copies of copies, one behind the other and as a tree, across blocks and loops.
func TestChainsOfCopies(t *testing.T) {
	for _, c := range [][2]string{
		{"Grad D8; Copy D9 A8; Copy D10 A9; Copy D11 A10; Copy D26 A11; Out A26", "Grad D8; Out A8"},
		{"Load D4 N1; Copy D5 A4; Copy D6 A5; Copy D7 A6; Store A7 N6; Store A5 N1", "Load D4 N1; Store A4 N6; Store A4 N1"},
		{"Load D0; Copy D1 A0; Copy D2 A0; Copy D3 A1; Copy D18 A1; Copy D19 A2; Add D20 A3 B18; Add D21 A19 B2; Store A20; Store A21 N5", "Load D0; Add D20 A0 B0; Store A20; Store A20 N5"},
		{"Load D4 N1; Grad D8; When A4; Copy D9 A8; When A4; Copy D10 A9; Copy D11 A8; Out A10; Store A11 N2; End; Store A9 N7; End", "Load D4 N1; Grad D8; When A4; When A4; Out A8; Store A8 N2; End; Store A8 N7; End"},
		{"Load D4 N1; Copy D5 A4; When A5; Copy D6 A5; When A6; Copy D7 A6; Store A7 N6; End; End; When A5; End", "Load D4 N1; When A4; When A4; Store A4 N6; End; End; When A4; End"},
		{"Loop; Grad D8; Copy D9 A8; Next; Copy D10 A9; Loop; Copy D11 A10; Out A11; Next; Sum D0 A11; Store A0", "Loop; Grad D8; Next; Loop; Out A8; Next; Sum D0 A8; Store A0"},
		{"Grad D8; Loop; Copy D9 A8; Next; Load D4 N1; When A4; Loop; Copy D10 A9; Neg D11 A10; Out A11; Next; Copy D26 A10; Store A26 N2; End", "Grad D8; Loop; Next; Load D4 N1; When A4; Loop; Neg D11 A8; Out A11; Next; Store A8 N2; End"},
	} {
		holdList(t, c[0], c[1])
	}
}

// TestFills: RE3, a copy that fills a vector with a number may stay; what it reads may go, and it may itself be copied.
func TestFills(t *testing.T) {
	holdStays(t, "Load D0; Copy D8 A0; Out A8; Copy D12 A0; Out A12; Copy D16 A0; Out A16")
	holdStays(t, "Load D0; Loop; Copy D8 A0; Out A8; Next")
	holdList(t, "Load D0; Copy D1 A0; Copy D2 A1; Copy D8 A2; Copy D9 A8; Out A9", "Load D0; Copy D8 A0; Out A8")
	holdList(t, "Number D0 =80000000; Number D1 =80000000; Copy D8 A1; Loop; Copy D9 A8; Out A9; Next", "Number D0 =80000000; Copy D8 A0; Loop; Out A8; Next")
	holdList(t, "Load D0; Copy D8 A0; Copy D9 A8; Neg D10 A8; Neg D11 A9; Out A11", "Load D0; Copy D8 A0; Neg D10 A8; Out A10")
}

// TestLoadsStay: RE2, a slot that is stored to between two loads holds something else; a copy of what was loaded does not.
func TestLoadsStay(t *testing.T) {
	holdList(t, "Load D8 N2; Copy D9 A8; Grad D10; Store A10 N2; Load D11 N2; Add D26 A9 B11; Out A26; Store A9 N7", "Load D8 N2; Grad D10; Store A10 N2; Load D11 N2; Add D26 A8 B11; Out A26; Store A8 N7")
	holdStays(t, "Load D4 N1; Inc D5 A4; Store A5 N1; Load D6 N1; Inc D7 A6; Store A7 N1; Load D22 N1; When A22; Store A6 N6; End")
	holdStays(t, "Load D4 N6; When A4; Load D8 N2; Neg D9 A8; Store A9 N2; End; Load D10 N2; Neg D11 A10; Out A11")
}

// again are ways to set a register once more, by the register.
var again = map[string]string{"D0": "Load D0 N5", "D1": "Number D1 =c0400000", "D4": "Load D4 N6", "D5": "Whole D5 N7", "D8": "Param D8", "D9": "Load D9 N2"}

// TestSetAgain: RE2, of copies and twins whose registers are set more than once; what is set behind them, or in a block, is not lost.
func TestSetAgain(t *testing.T) {
	for _, c := range []struct{ ahead, copied, use string }{
		{"Load D0; Load D7 N1", "Copy D1 A0", "Store A1; Store A0 N5"},
		{"Load D0; Load D7 N1", "Add D1 A0 B0; Add D2 A0 B0", "Store A1; Store A2 N5"},
		{"Number D0 =40000000; Number D1 =40000000; Load D7 N1", "Sqrt D2 A0; Sqrt D3 A1", "Store A2; Store A3 N5"},
		{"Load D4 N1; Load D7 N6", "Copy D5 A4", "Store A5 N1; Store A4 N6"},
		{"Load D4 N1; Load D7 N6", "Inc D5 A4; Inc D6 A4", "When A5; Store A6 N1; End; Store A5 N6"},
		{"Grad D8; Load D7 N6", "Copy D9 A8", "Out A9; Store A8 N7"},
		{"Grad D8; Load D7 N6", "Neg D9 A8; Neg D10 A8", "Out A9; Store A10 N7"},
		{"Grad D8; Load D7 N6", "Loop; Abs D9 A8; Abs D10 A8; Next", "Loop; Out A9; Store A10 N7; Next"},
		{"Grad D8; Grad D9; Load D7 N6", "Neg D10 A8; Neg D11 A9", "Out A10; Store A11 N7"},
	} {
		for register, text := range again {
			if !strings.Contains(c.ahead+c.copied, register+" ") && !strings.HasSuffix(c.ahead+c.copied, register) {
				continue
			}
			holdMeans(t, c.ahead, c.copied, text, c.use)
			holdMeans(t, c.ahead, text, c.copied, c.use)
			holdMeans(t, c.ahead, c.copied, "When A7", text, "End", c.use)
			holdMeans(t, c.ahead, "When A7", text, "End", c.copied, c.use)
			holdMeans(t, c.ahead, c.copied, "When A7", text, c.use, "End")
			holdMeans(t, c.ahead, c.copied, "When A7", text, c.copied, "End", c.use)
			holdMeans(t, c.ahead, c.copied, c.use, text, c.copied, c.use)
			holdMeans(t, c.ahead, "When A7", c.copied, c.use, text, "End", c.copied, c.use)
			holdMeans(t, c.ahead, "When A7", c.copied, text, c.use, "End", text, c.copied, c.use)
		}
	}
}

// holdMeans: RE1 and RE2 of wide code with these instructions.
func holdMeans(t *testing.T, pieces ...string) {
	t.Helper()
	text := strings.Join(pieces, ";")
	c := wide(text)
	if samples.IsSingle(c) {
		t.Errorf("%s is single", text)
	}
	holdWide(t, c)
}

// TestSteadyAmongOthers: of code that is not single, what works on registers that are set once is done, and the rest stays.
func TestSteadyAmongOthers(t *testing.T) {
	holdList(t, "Number D0 =40000000; Number D0 =40400000; Grad D8; Grad D9; Copy D10 A9; Neg D11 A10; Neg D26 A8; Out A26; Store A0", "Number D0 =40000000; Number D0 =40400000; Grad D8; Neg D11 A8; Out A11; Store A0")
	holdStays(t, "Load D0; Copy D1 A0; Load D0 N5; Store A1 N5; Store A0")
	holdStays(t, "Load D0; Copy D1 A0; Store A1 N5; Load D1 N5; Neg D1 A1; Store A1")
	holdStays(t, "Load D0; Neg D1 A0; Load D0 N5; Neg D2 A0; Store A1 N5; Store A2")
	holdStays(t, "Load D0; Neg D1 A0; Load D1 N5; Neg D2 A0; Store A1 N5; Store A2")
	holdStays(t, "Load D4 N1; Load D0; Neg D1 A0; When A4; Load D0 N5; End; Neg D2 A0; Store A1 N5; Store A2")
	holdStays(t, "Load D4 N1; Load D0; Copy D1 A0; When A4; Load D1 N5; End; Store A1")
	holdStays(t, "Load D4 N1; Load D0; Copy D1 A0; When A4; Load D0 N5; End; Store A1")
	holdStays(t, "Load D0; Copy D0 A0; Copy D0 A0; Store A0")
}
