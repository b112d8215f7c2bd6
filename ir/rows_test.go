package ir

import (
	"testing"

	"lathe/api"
	"lathe/samples"
)

// The usual registers: 0, 1 numbers; 2, 3 whole numbers; 4, 5 vectors of w, 6, 7 of the complex z, 8 of u. The usual slots:
// 0, 6 numbers; 1, 5 whole numbers; 2 a vector of w, 3 of z, 4 of u.

// TestRowsTaken: IR1, of each row what it names, with each type that it may be.
func TestRowsTaken(t *testing.T) {
	holdTaken(t,
		"Number D0", "Number D1 =7fc00000", "Number D0 =ff800000", "Number D0 =80000000", "Number D1 =00000001",
		"Whole D2", "Whole D3 N1", "Whole D2 N2147483647",
		"Copy D0 A0", "Copy D0 A1", "Copy D2 A3", "Copy D4 A5", "Copy D6 A7", "Copy D8 A8", "Copy D4 A0", "Copy D6 A1", "Copy D8 A1",
		"Power D0 A0 B2", "Power D1 A0 B3", "From D0 A2", "From D1 A3", "Test D2 A0", "Test D3 A1",
		"Sum D0 A4", "Sum D1 A6", "Sum D0 A8", "Least D0 A4", "Least D1 A7", "Least D1 A8",
		"Inc D2 A2", "Inc D2 A3", "Not D3 A2", "Not D3 A3", "Choose D2 A2 B2 C2", "Choose D2 A3 B2 C3", "Choose D3 A2 B3 C2",
		"Grad D4", "Grad D5 N0", "Grad D6 N0", "Grad D6 N1", "Grad D7 N1", "Grad D8", "Param D4", "Param D7 N0", "Param D7 N1", "Param D8",
		"Out A4", "Out A5", "Out A6", "Out A6 N1", "Out A7 N1", "Out A8",
		"Load D0 N0", "Load D1 N6", "Load D2 N1", "Load D3 N5", "Load D4 N2", "Load D6 N3", "Load D8 N4",
		"Store A0 N0", "Store A1 N6", "Store A2 N1", "Store A3 N5", "Store A5 N2", "Store A7 N3", "Store A8 N4",
		"When A2; End", "When A3; End", "Loop; Next", "Loop N1; Next", "Loop N2; Next",
	)
	for _, name := range []string{"Add", "Sub", "Mul", "Div", "Min", "Max", "Less"} {
		for _, fields := range []string{"D0 A0 B0", "D1 A0 B1", "D4 A4 B5", "D4 A0 B5", "D4 A5 B1", "D4 A0 B1", "D6 A7 B6", "D6 A7 B0", "D6 A0 B0", "D8 A8 B8", "D8 A1 B8"} {
			holdTaken(t, name+" "+fields)
		}
	}
	for _, name := range []string{"Sqrt", "Neg", "Abs", "Finite"} {
		for _, fields := range []string{"D0 A0", "D1 A0", "D4 A4", "D4 A5", "D4 A1", "D7 A6", "D7 A0", "D8 A8", "D8 A0"} {
			holdTaken(t, name+" "+fields)
		}
	}
	for _, fields := range []string{"D0 A0 B0 C0", "D0 A1 B0 C1", "D4 A4 B4 C4", "D4 A0 B5 C4", "D4 A5 B0 C4", "D4 A5 B4 C0", "D4 A0 B0 C0", "D7 A6 B7 C0", "D8 A8 B1 C8"} {
		holdTaken(t, "Select "+fields)
	}
	for _, name := range []string{"Less2", "Same", "And", "Minus", "Over"} {
		holdTaken(t, name+" D2 A2 B2", name+" D2 A3 B2", name+" D3 A2 B3")
	}
}

// TestRowsRefused: IR1, of each row a type that it may not be, what is not there, and what it does not name.
func TestRowsRefused(t *testing.T) {
	holdRefused(t, 0,
		"Number D2", "Number D4", "Number D9", "Number D-1", "Number D0 =7f800001", "Number D0 =ffc00000", "Number D0 =7fffffff", "Number D0 N1", "Number D0 A1",
		"Whole D0", "Whole D6", "Whole D9", "Whole D2 N-1", "Whole D2 N2147483648", "Whole D2 =00000001", "Whole D2 =80000000", "Whole D2 B1",
		"Copy D0 A2", "Copy D2 A0", "Copy D0 A4", "Copy D2 A4", "Copy D4 A2", "Copy D4 A6", "Copy D4 A8", "Copy D8 A4", "Copy D4 A9", "Copy D9 A4", "Copy D4 A-1", "Copy D9 A9",
		"Copy D4 A4 B4", "Copy D4 A4 C4", "Copy D4 A4 N1", "Copy D4 A4 =00000001",
		"Power D0 A0 B0", "Power D0 A2 B2", "Power D2 A0 B2", "Power D4 A4 B2", "Power D4 A0 B2", "Power D0 A4 B2", "Power D0 A0 B4", "Power D0 A0 B2 C1", "Power D0 A0 B9",
		"From D0 A0", "From D2 A2", "From D4 A2", "From D0 A4", "From D0 A2 B2", "From D0 A2 N1", "Test D2 A2", "Test D0 A0", "Test D2 A4", "Test D4 A0", "Test D2 A0 B1", "Test D2 A9",
		"Sum D0 A0", "Sum D0 A2", "Sum D2 A4", "Sum D4 A4", "Sum D4 A5", "Sum D0 A4 B4", "Sum D0 A9", "Sum D9 A4", "Least D0 A0", "Least D6 A6", "Least D2 A6", "Least D0 A4 N1",
		"Inc D2 A0", "Inc D0 A2", "Inc D4 A4", "Inc D2 A2 B2", "Inc D2 A2 N1", "Not D0 A0", "Not D2 A0", "Not D2 A4", "Not D2 A2 C2",
		"Choose D2 A2 B2 C0", "Choose D2 A2 B0 C2", "Choose D2 A0 B2 C2", "Choose D0 A2 B2 C2", "Choose D0 A2 B0 C0", "Choose D4 A2 B4 C4", "Choose D2 A2 B2 C2 N1", "Choose D2 A2 B2 C9",
		"Grad D0", "Grad D2", "Grad D4 N1", "Grad D8 N1", "Grad D6 N2", "Grad D6 N-1", "Grad D9", "Grad D4 A4", "Grad D4 =00000001", "Param D0", "Param D4 N1", "Param D6 N2", "Param D-1",
		"Out A0", "Out A2", "Out A4 N1", "Out A6 N2", "Out A6 N-1", "Out A9", "Out D4 A4", "Out A4 B4", "Out D4", "Out A8 N1",
		"Load D0 N1", "Load D0 N2", "Load D2 N0", "Load D4 N3", "Load D4 N4", "Load D4 N0", "Load D6 N2", "Load D8 N2", "Load D0 N7", "Load D0 N-1", "Load D9 N0", "Load D0 A1", "Load D0 =00000001",
		"Store A0 N1", "Store A0 N2", "Store A2 N0", "Store A4 N3", "Store A4 N4", "Store A8 N2", "Store A0 N7", "Store A0 N-1", "Store A9 N0", "Store D1 A0", "Store A0 B1", "Store D2 N1",
		"When A0", "When A4", "When A9", "When A-1", "When D2 A2", "When A2 B2", "When A2 N1", "When A2 =00000001", "When D2",
		"Loop N3", "Loop N-1", "Loop D4", "Loop A4", "Loop B2", "Loop C2", "Loop =00000001", "Loop N2147483647",
	)
	holdRefused(t, 1, "When A2; End D1", "When A2; End A2", "When A2; End N1", "When A2; End =00000001", "Loop; Next D4", "Loop; Next A4", "Loop; Next C1", "Loop N1; Next N1", "Loop; Next =00000001")
	for _, name := range []string{"Add", "Sub", "Mul", "Div", "Min", "Max", "Less"} {
		for _, fields := range []string{"D2 A2 B2", "D0 A2 B0", "D0 A0 B2", "D0 A4 B0", "D0 A0 B4", "D4 A2 B4", "D4 A4 B2", "D4 A6 B4", "D4 A4 B8", "D8 A4 B8", "D4 A4 B4 C4", "D4 A4 B4 N1", "D4 A4 B9", "D4 A-1 B4", "D9 A0 B0", "D0 A0 B0 =00000001"} {
			holdRefused(t, 0, name+" "+fields)
		}
	}
	for _, name := range []string{"Sqrt", "Neg", "Abs", "Finite"} {
		for _, fields := range []string{"D2 A2", "D2 A0", "D0 A2", "D0 A4", "D4 A2", "D4 A6", "D4 A8", "D4 A4 B4", "D4 A4 C4", "D4 A4 N1", "D0 A9", "D-1 A0", "D0 A0 =00000001"} {
			holdRefused(t, 0, name+" "+fields)
		}
	}
	for _, fields := range []string{"D2 A2 B2 C2", "D0 A2 B0 C0", "D0 A0 B2 C0", "D0 A0 B0 C2", "D0 A4 B0 C0", "D0 A0 B0 C4", "D4 A2 B4 C4", "D4 A4 B6 C4", "D4 A4 B4 C8", "D4 A4 B4 C4 N1", "D4 A4 B4 C9", "D4 A4 B-1 C4"} {
		holdRefused(t, 0, "Select "+fields)
	}
	for _, name := range []string{"Less2", "Same", "And", "Minus", "Over"} {
		holdRefused(t, 0, name+" D0 A2 B2", name+" D2 A0 B2", name+" D2 A2 B0", name+" D4 A4 B4", name+" D0 A0 B0", name+" D2 A2 B4", name+" D2 A2 B2 C2", name+" D2 A2 B2 N1", name+" D2 A2 B9")
	}
}

// holdRow: an instruction behind others that have set all registers is taken just if it fits its row.
func holdRow(t *testing.T, c api.Code, i api.Inst) {
	t.Helper()
	last := len(c.List) - 1
	c.List[last] = i
	e, at := Check(c)
	switch {
	case !wantFits(c, i) || i.Op == api.OpEnd || i.Op == api.OpNext:
		if e != errCode || at != last {
			t.Errorf("Check of %v: %d, %d", i, e, at-last)
		}
	case i.Op == api.OpWhen || i.Op == api.OpLoop:
		if e != errCode || at != last+1 {
			t.Errorf("Check of %v: %d, %d: its block is open", i, e, at-last)
		}
	case e != api.OK || at != 0:
		t.Errorf("Check of %v: %d, %d", i, e, at-last)
	}
}

// TestEachRegister: IR1, of each row all registers in all fields, and some that are not there.
func TestEachRegister(t *testing.T) {
	c, _ := behind("End")
	for _, op := range ops() {
		for d := -1; d <= 9; d++ {
			for a := -1; a <= 9; a++ {
				for b := -1; b <= 9; b++ {
					for k := -1; k <= 9; k++ {
						holdRow(t, c, api.Inst{Op: op, D: d, A: a, B: b, C: k})
					}
				}
			}
		}
	}
}

// TestEachNumber: IR1, of each row numbers and patterns, with registers of all types.
func TestEachNumber(t *testing.T) {
	c, _ := behind("End")
	for _, op := range ops() {
		for d := 0; d <= 9; d++ {
			for a := 0; a <= 9; a++ {
				for _, n := range []int{-1, 0, 1, 2, 3, 4, 5, 6, 7, maxCount, maxCount + 1, minInt, maxInt, 1 << 32} {
					for _, rest := range []api.Inst{{}, {B: 2}, {B: 4, C: 4}, {Bits: 1}, {Bits: nan}, {Bits: 0x7f800001}, {Bits: 0x80000000}} {
						holdRow(t, c, api.Inst{Op: op, D: d, A: a, B: rest.B, C: rest.C, N: n, Bits: rest.Bits})
					}
				}
			}
		}
	}
}

// TestFarRegisters: IR1, registers, slots and parameters far beyond those that are there, in each field of each row.
func TestFarRegisters(t *testing.T) {
	c, _ := behind("End")
	for _, op := range ops() {
		good := api.Inst{Op: op}
		for k, place := range []*int{&good.D, &good.A, &good.B, &good.C} {
			if at := map[byte]int{'n': 1, 'w': 2, 'v': 4, 'd': 4, 'x': 4, 't': 2, 's': 2}[rowsByOp[op][k]]; at != 0 {
				*place = at
			}
		}
		if rowsByOp[op][4] == 's' {
			good.N = 1
		}
		if !wantFits(c, good) {
			t.Errorf("%v does not fit its row", good)
		}
		holdRow(t, c, good)
		for _, letter := range []byte("DABCN") {
			for _, far := range []int{9, 10, 16383, 16384, 1 << 31, 1<<32 + 1, 1<<32 + 4, minInt, minInt + 2, maxInt, -1, -4} {
				bad := good
				*field(&bad, letter) = far
				holdRow(t, c, bad)
			}
		}
	}
}

// TestPatterns: IR1, of OpNumber and of slots no NaN but the one, and every other pattern.
func TestPatterns(t *testing.T) {
	list := append(samples.Edges(), samples.NaNs()...)
	list = append(list, nan, 0x7fbfffff, 0x7fc00001, 0xffc00000, 0x7f7fffff, 0x00000001)
	s := samples.Source(7)
	list = append(list, s.List(3000)...)
	for _, a := range list {
		e, place := api.OK, 0
		if !samples.IsTold(a) {
			e, place = errCode, 1
		}
		holdCheck(t, usual(read("Number D1")[0], api.Inst{Op: api.OpNumber, Bits: a}), e, place)
		for _, kept := range []bool{true, false} {
			c := usual()
			c.Slots = append(c.Slots, api.Slot{Type: numberType(), Bits: a, Keep: kept})
			holdCheck(t, c, e, -place)
			c.Slots[0] = api.Slot{Type: vectorType(1), Bits: a, Keep: kept}
			holdCheck(t, c, e, -place)
		}
	}
}
