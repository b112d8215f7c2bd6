package alloc

import (
	"slices"
	"strconv"
	"strings"
	"testing"

	"lathe/api"
	"lathe/samples"
)

// holdPressure: the usual code with these instructions has this Pressure: numbers, whole numbers, vectors of w, z, u. What the chapter's
// words say, done slowly, has it too.
func holdPressure(t *testing.T, text string, want ...int) {
	t.Helper()
	c := usual(text)
	if n, w, v, e := Pressure(c); e != api.OK || !slices.Equal(append([]int{n, w}, v...), want) {
		t.Errorf("%s: Pressure = %d, %d, %v, %d, want %v", text, n, w, v, e, want)
	}
	if words := pressureByWords(c); !slices.Equal(words, want) {
		t.Errorf("%s: %v by words, want %v", text, words, want)
	}
}

// TestStraight: RA1, code without blocks: what is read yet, and what is set.
func TestStraight(t *testing.T) {
	holdPressure(t, "", 0, 0, 0, 0, 0)
	holdPressure(t, "Number D0; Store A0", 1, 0, 0, 0, 0)
	holdPressure(t, "Number D0; Number D1; Store A0; Store A1", 2, 0, 0, 0, 0)
	holdPressure(t, "Number D0; Store A0; Number D1; Store A1", 1, 0, 0, 0, 0)
	holdPressure(t, "Number D0; Number D1; Add D2 A0 B1; Store A2", 2, 0, 0, 0, 0)
	holdPressure(t, "Number D0; Number D1; Add D2 A0 B1; Store A2; Store A0", 2, 0, 0, 0, 0)
	holdPressure(t, "Number D0; Number D1; Add D2 A0 B1; Store A2; Store A0; Store A1", 3, 0, 0, 0, 0)
	holdPressure(t, "Number D0; Number D1; Number D2; Select D3 A0 B1 C2; Store A3", 3, 0, 0, 0, 0)
	holdPressure(t, "Number D0; Number D1; Number D2; Select D3 A0 B1 C2; Store A3; Store A2", 3, 0, 0, 0, 0)
	holdPressure(t, "Number D0; Number D1; Number D2; Select D3 A0 B1 C2; Store A3; Store A2; Store A1; Store A0", 4, 0, 0, 0, 0)
	holdPressure(t, "Number D0; Add D1 A0 B0; Select D2 A1 B1 C1; Store A2", 1, 0, 0, 0, 0)
	holdPressure(t, "Number D0; Neg D1 A0; Neg D2 A1; Neg D3 A2; Store A3", 1, 0, 0, 0, 0)
	holdPressure(t, "Load D0; Load D1; Load D2; Load D3; Store A3; Store A2; Store A1; Store A0", 4, 0, 0, 0, 0)
	holdPressure(t, "Number D3", 1, 0, 0, 0, 0)
}

// TestNeverRead: RA1, a register that is set counts behind that, also if nothing reads it; but no further.
func TestNeverRead(t *testing.T) {
	holdPressure(t, "Number D0", 1, 0, 0, 0, 0)
	holdPressure(t, "Number D0; Number D1; Number D2", 1, 0, 0, 0, 0)
	holdPressure(t, "Number D0; Number D1; Number D2; Store A0", 2, 0, 0, 0, 0)
	holdPressure(t, "Number D0; Number D1; Number D2; Store A1", 2, 0, 0, 0, 0)
	holdPressure(t, "Number D0; Number D1; Number D2; Store A2", 1, 0, 0, 0, 0)
	holdPressure(t, "Number D0; Number D0; Number D0; Store A0", 1, 0, 0, 0, 0)
	holdPressure(t, "Whole D4; Grad D8; Grad D12; Grad D16; Number D0", 1, 1, 1, 1, 1)
	holdPressure(t, "Load D4 N1; Inc D5 A4; When A4; Whole D6; Whole D7; End", 0, 2, 0, 0, 0)
	holdPressure(t, "Grad D8; Sum D0 A8; Sum D1 A8; Out A8", 1, 0, 1, 0, 0)
	holdPressure(t, "Loop; Grad D8; Grad D9; Out A8; Next", 0, 0, 2, 0, 0)
}

// TestSetAgain: RA1, a register that is set more than once is not alive between the last read of what it held and the next setting.
func TestSetAgain(t *testing.T) {
	holdPressure(t, "Number D0; Neg D0 A0; Neg D0 A0; Store A0", 1, 0, 0, 0, 0)
	holdPressure(t, "Number D0; Store A0; Number D1; Store A1; Number D0; Store A0", 1, 0, 0, 0, 0)
	holdPressure(t, "Number D0; Number D1; Store A1; Number D0; Store A0", 1, 0, 0, 0, 0)
	holdPressure(t, "Number D0; Number D1; Store A0; Number D0; Store A1; Store A0", 2, 0, 0, 0, 0)
	holdPressure(t, "Number D0; Number D1; Number D2; Store A0; Number D0; Store A2; Store A0; Store A1", 3, 0, 0, 0, 0)
	holdPressure(t, "Number D0; Number D1; Add D0 A0 B1; Add D1 A0 B1; Store A1", 2, 0, 0, 0, 0)
	holdPressure(t, "Whole D4; Whole D4; Inc D4 A4; Store A4 N1; Whole D5; Whole D4; Same D5 A5 B4", 0, 2, 0, 0, 0)
}

// TestSorts: RA1, each sort counts by itself, and the vectors of each parameter too, also where one instruction has to do with several.
func TestSorts(t *testing.T) {
	holdPressure(t, "Number D0; Whole D4; Grad D8; Grad D12; Grad D16; Store A0; Store A4 N1; Out A8; Out A12; Out A16", 1, 1, 1, 1, 1)
	holdPressure(t, "Number D0; Number D1; Whole D4; Whole D5; Power D2 A0 B4; Power D2 A2 B5; Mul D2 A2 B1; Store A2", 2, 2, 0, 0, 0)
	holdPressure(t, "Whole D4; From D0 A4; Test D5 A0; Store A5 N1", 1, 1, 0, 0, 0)
	holdPressure(t, "Whole D4; From D0 A4; Test D5 A0; Store A5 N1; Store A4 N1; Store A0", 1, 2, 0, 0, 0)
	holdPressure(t, "Grad D8; Sum D0 A8; Least D1 A8; Sub D2 A0 B1; Mul D9 A8 B2; Out A9", 2, 0, 1, 0, 0)
	holdPressure(t, "Grad D12; Grad D13 N1; Mul D14 A12 B13; Grad D16; Param D17; Out A14; Out A13 N1; Out A16; Store A17 N4; Grad D8; Out A8", 0, 0, 1, 2, 2)
	holdPressure(t, "Grad D16; Sum D0 A16; Copy D8 A0; Copy D12 A0; Out A8; Out A12; Out A16", 1, 0, 1, 1, 1)
	holdPressure(t, "Grad D8; Param D9; Load D10 N2; Load D11 N7; Select D8 A8 B9 C10; Out A8; Out A11", 0, 0, 4, 0, 0)
	holdPressure(t, "Load D4 N1; Whole D5; Whole D6; Choose D7 A4 B5 C6; Store A7 N1", 0, 3, 0, 0, 0)
}

// TestPressureOfBlocks: RA1, blocks that set, read and leave alone what is alive around them.
func TestPressureOfBlocks(t *testing.T) {
	holdPressure(t, "Load D4 N1; When A4; End", 0, 1, 0, 0, 0)
	holdPressure(t, "Load D4 N1; When A4; Number D0; Number D1; Store A0; Store A1; End", 2, 1, 0, 0, 0)
	holdPressure(t, "Load D4 N1; Number D0; When A4; Number D1; Store A1; End; Store A0", 2, 1, 0, 0, 0)               // left alone
	holdPressure(t, "Load D4 N1; Number D0; When A4; Store A0; Number D1; Store A1; End", 1, 1, 0, 0, 0)               // read, for the last time
	holdPressure(t, "Load D4 N1; Number D0; When A4; Store A0; Number D1; Store A1; End; Store A0", 2, 1, 0, 0, 0)     // read
	holdPressure(t, "Load D4 N1; Number D0; When A4; Number D1; Store A1; Number D0; End; Store A0", 1, 1, 0, 0, 0)    // set: it is not alive ahead of that
	holdPressure(t, "Load D4 N1; Number D0; When A4; Number D0; Number D1; Store A1; End; Store A0", 2, 1, 0, 0, 0)    // set: it is alive behind that
	holdPressure(t, "Load D4 N1; Number D0; When A4; Number D1; Add D0 A0 B1; Store A1; End; Store A0", 2, 1, 0, 0, 0) // read and set
	holdPressure(t, "Load D4 N1; Number D0; Number D1; When A4; Store A0; End; When A4; Store A1; End", 2, 1, 0, 0, 0) // of two, each read in one
	holdPressure(t, "Load D4 N1; Number D0; When A4; Number D0; Store A0; End; Number D1; Store A1; Store A0", 2, 1, 0, 0, 0)
	holdPressure(t, "Load D4 N1; Number D0; When A4; Number D0; End; Number D0; Store A0", 1, 1, 0, 0, 0)
	holdPressure(t, "Load D4 N1; When A4; Whole D5; End; When A4; End", 0, 2, 0, 0, 0)
	holdPressure(t, "Load D4 N1; Number D0; Number D1; When A4; Number D0; Number D1; End; Store A0; Store A1", 2, 1, 0, 0, 0)
	holdPressure(t, "Load D4 N1; Number D0; Number D1; Number D2; When A4; Number D3; Store A3; Number D0; Number D3; Store A3; Number D1; End; Store A0; Store A1; Store A2", 3, 1, 0, 0, 0)
}

// TestPressureOfNested: RA1, blocks within one another: where the inner one is left out, and where the outer one is, what is alive is
// another one.
func TestPressureOfNested(t *testing.T) {
	holdPressure(t, "Load D4 N1; Number D0; When A4; When A4; Number D0; End; End; Store A0", 1, 1, 0, 0, 0)
	holdPressure(t, "Load D4 N1; Number D0; When A4; When A4; Number D1; Store A1; End; Number D0; End; Store A0", 1, 1, 0, 0, 0)           // it is set behind the inner one
	holdPressure(t, "Load D4 N1; Number D0; When A4; When A4; Number D1; Store A1; Number D0; End; End; Store A0", 1, 1, 0, 0, 0)           // it is set in the inner one
	holdPressure(t, "Load D4 N1; Number D0; When A4; When A4; Number D0; End; Number D1; Store A1; End; Store A0", 2, 1, 0, 0, 0)           // it may be set in the inner one
	holdPressure(t, "Load D4 N1; Number D0; When A4; Store A0; When A4; Number D1; Store A1; End; End", 1, 1, 0, 0, 0)                      // read ahead of the inner one
	holdPressure(t, "Load D4 N1; Number D0; When A4; When A4; Number D1; Store A1; End; Store A0; End", 2, 1, 0, 0, 0)                      // read behind the inner one
	holdPressure(t, "Load D4 N1; Number D0; Number D1; When A4; Store A0; When A4; Number D2; Store A2; Store A1; End; End", 2, 1, 0, 0, 0) // one in each
	holdPressure(t, "Load D4 N1; Load D5 N1; Load D6 N1; When A4; When A5; When A6; Whole D7; Store A7 N1; End; End; End", 0, 3, 0, 0, 0)   // what the blocks read
	holdPressure(t, "Load D4 N1; Load D5 N1; Load D6 N1; When A4; When A5; When A6; Whole D7; Store A7 N1; End; When A4; End; End; End", 0, 3, 0, 0, 0)
	holdPressure(t, "Load D4 N1; Load D5 N1; Load D6 N1; When A4; When A5; When A6; Whole D7; End; End; When A6; End; End; When A5; End; Store A4 N1", 0, 4, 0, 0, 0)
	deep := strings.Repeat("When A4; Number D1; Store A1;", maxNest) + strings.Repeat("End;", maxNest)
	holdPressure(t, "Load D4 N1; Number D0;"+deep+"Store A0", 2, 1, 0, 0, 0)
	holdPressure(t, "Load D4 N1; Number D0;"+deep, 1, 1, 0, 0, 0)
}

// TestPressureOfLoops: RA1, loops are no blocks that are left out, and no way leads back in them: what is set in one, and what is read in
// the next step alone, is not alive ahead.
func TestPressureOfLoops(t *testing.T) {
	holdPressure(t, "Loop; Grad D8; Neg D9 A8; Out A9; Next", 0, 0, 1, 0, 0)
	holdPressure(t, "Loop; Grad D8; Param D9; Add D10 A8 B9; Out A10; Next", 0, 0, 2, 0, 0)
	holdPressure(t, "Loop; Grad D8; Next; Loop; Grad D9; Out A9; Next; Loop; Out A8; Next", 0, 0, 2, 0, 0)
	holdPressure(t, "Loop; Grad D8; Out A8; Next; Loop; Grad D9; Out A9; Next", 0, 0, 1, 0, 0)
	holdPressure(t, "Number D0; Number D1; Loop; Grad D8; Mul D8 A8 B0; Add D8 A8 B1; Out A8; Next", 2, 0, 1, 0, 0)
	holdPressure(t, "Number D0; Loop; Grad D8; Mul D8 A8 B0; Out A8; Next; Number D1; Loop N2; Grad D16; Mul D16 A16 B1; Out A16; Next", 1, 0, 1, 0, 1)
	holdPressure(t, "Grad D8; Loop; Out A8; Grad D8; Next; Loop N1; Next; Grad D9; Out A9", 0, 0, 1, 0, 0)
	holdPressure(t, "Load D4 N1; Loop; Grad D8; Next; When A4; Loop; Param D8; Param D9; Out A9; Next; End; Loop; Out A8; Next", 0, 1, 2, 0, 0)
	holdPressure(t, "Load D4 N1; Loop; Grad D8; Next; When A4; Loop; Param D9; Out A9; Param D8; Next; End; Loop; Out A8; Next", 0, 1, 1, 0, 0)
}

// TestPressureOfMany: RA1, as many parameters as may be, with another number of vectors each.
func TestPressureOfMany(t *testing.T) {
	c := api.Code{}
	want := []int{0, 0}
	for p := range 64 {
		c.Sign = append(c.Sign, api.Param{Name: "p" + strconv.Itoa(p), Kind: 1, Len: 1})
		want = append(want, 1+p%5)
		first := len(c.Regs)
		for range 1 + p%5 {
			c.List = append(c.List, api.Inst{Op: 29, D: len(c.Regs)})
			c.Regs = append(c.Regs, api.Type{Kind: 3, Param: p})
		}
		for register := first; register < len(c.Regs); register++ {
			c.List = append(c.List, api.Inst{Op: 31, A: register})
		}
	}
	if p := pressureOf(c); !slices.Equal(p, want) || !slices.Equal(p, pressureByWords(c)) {
		t.Errorf("%v, want %v", p, want)
	}
	hold(t, &samples.Grower{Source: 8}, c)
}

// TestPressureFromAllOver: RA1, codes from all over, single ones and others, against the chapter's words.
func TestPressureFromAllOver(t *testing.T) {
	g := &samples.Grower{Source: 9}
	blocks, dead := 0, 0
	for n := range 2000 {
		c := g.SingleCode(70)
		switch n % 3 {
		case 1:
			c = g.Merged(c, 1+g.Below(6))
		case 2:
			c = g.Code(70)
		}
		want := pressureByWords(c)
		if p := pressureOf(c); !slices.Equal(p, want) {
			t.Fatalf("%v, want %v: %s", p, want, samples.Show(c))
		}
		if samples.Counts(c)[34] > 1 {
			blocks++
		}
		if !slices.Equal(want, samples.Registers(c)) {
			dead++
		}
	}
	if min(blocks, dead) < 300 {
		t.Errorf("%d with blocks, %d with fewer alive than there are", blocks, dead)
	}
}
