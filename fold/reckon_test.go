package fold

import (
	"fmt"
	"testing"

	"lathe/api"
	"lathe/interp"
	"lathe/samples"
)

// patterns are edges of both signs, ordinary numbers, and the one NaN.
func patterns() []api.F {
	list := []api.F{nan, 0xbfc00000, 0x3eaaaaab, 0x4b800000, 0x40490fdb}
	for _, a := range samples.Edges() {
		if !samples.IsNaN(a) {
			list = append(list, a)
		}
	}
	return list
}

// wholes are edges too.
func wholes() []int { return []int{0, 1, 2, 3, 7, 31, 1 << 16, 16777217, maxCount - 1, maxCount} }

// left is what the slots 0 and 1 hold behind a step of the usual code.
func left(t *testing.T, c api.Code) (api.F, int) {
	t.Helper()
	r := running(t, c)
	vectors := [][]api.F{{0, 0, 0}, {0, 0, 0, 0}, {0}}
	stepped(t, r, vectors, vectors)
	return number(r), whole(r)
}

func number(r *interp.Run) api.F {
	a, _, _ := r.Slot(0)
	return a[0]
}

func whole(r *interp.Run) int {
	_, n, _ := r.Slot(1)
	return n
}

// holdReckoned: behind what sets its registers, an instruction that sets the register 3 or 7 becomes what the interpreter makes of it.
func holdReckoned(t *testing.T, ahead, text string) api.Inst {
	t.Helper()
	c := usual(ahead + ";" + text)
	last := len(c.List) - 1
	d := c.List[last].D
	c.List = append(c.List, api.Inst{Op: api.OpStore, A: d, N: d / 4})
	bits, n := left(t, c)
	want := api.Inst{Op: api.OpNumber, D: d, Bits: bits}
	if d == 7 {
		want = api.Inst{Op: api.OpWhole, D: d, N: n}
	}
	f := folded(t, c)
	if len(f.List) != len(c.List) || f.List[last] != want {
		t.Errorf("%s; %s: %s, want %v", ahead, text, listed(f.List), want)
	}
	return f.List[last]
}

// TestNumbersReckoned: FO3, each elementwise instruction of one and of two numbers, of all pairs, of one register twice.
func TestNumbersReckoned(t *testing.T) {
	for _, a := range patterns() {
		ahead := fmt.Sprintf("Number D0 =%08x", uint32(a))
		for _, op := range []string{"Copy", "Sqrt", "Neg", "Abs", "Finite"} {
			holdReckoned(t, ahead, op+" D3 A0")
		}
		for _, op := range []string{"Add", "Sub", "Mul", "Div", "Min", "Max", "Less"} {
			holdReckoned(t, ahead, op+" D3 A0 B0")
			for _, b := range patterns() {
				holdReckoned(t, ahead+fmt.Sprintf("; Number D1 =%08x", uint32(b)), op+" D3 A0 B1")
			}
		}
	}
}

// TestSelectReckoned: FO3, an OpSelect of three constants.
func TestSelectReckoned(t *testing.T) {
	for _, a := range patterns() {
		for _, b := range []api.F{0, minus, 1, one, inf, nan} {
			for _, c := range []api.F{0, minus, 1, one, inf, nan} {
				ahead := fmt.Sprintf("Number D0 =%08x; Number D1 =%08x; Number D2 =%08x", uint32(a), uint32(b), uint32(c))
				got := holdReckoned(t, ahead, "Select D3 A0 B1 C2").Bits
				if want := map[bool]api.F{true: b, false: c}[!samples.IsNought(a) && !samples.IsNaN(a)]; got != want {
					t.Errorf("%s: %08x", ahead, got)
				}
			}
		}
	}
}

// TestBetweenReckoned: FO3, OpPower, OpFrom and OpTest, between numbers and whole numbers.
func TestBetweenReckoned(t *testing.T) {
	for _, a := range patterns() {
		number := fmt.Sprintf("Number D0 =%08x", uint32(a))
		holdReckoned(t, number, "Test D7 A0")
		for _, n := range wholes() {
			holdReckoned(t, number+fmt.Sprintf("; Whole D4 N%d", n), "Power D3 A0 B4")
		}
	}
	for _, n := range wholes() {
		holdReckoned(t, fmt.Sprintf("Whole D4 N%d", n), "From D3 A4")
	}
}

// TestWholesReckoned: FO3, the instructions of whole numbers, of all pairs, of one register twice.
func TestWholesReckoned(t *testing.T) {
	for _, a := range wholes() {
		ahead := fmt.Sprintf("Whole D4 N%d", a)
		for _, op := range []string{"Inc", "Not"} {
			holdReckoned(t, ahead, op+" D7 A4")
		}
		for _, op := range []string{"Less2", "Same", "And", "Minus", "Over"} {
			holdReckoned(t, ahead, op+" D7 A4 B4")
			for _, b := range wholes() {
				holdReckoned(t, ahead+fmt.Sprintf("; Whole D5 N%d", b), op+" D7 A4 B5")
			}
		}
		for _, b := range wholes() {
			ahead := ahead + fmt.Sprintf("; Whole D5 N%d; Whole D6 N%d", b, maxCount-b)
			holdReckoned(t, ahead, "Choose D7 A4 B5 C6")
			holdReckoned(t, ahead, "Choose D7 A4 B4 C4")
		}
	}
}

// TestReckonedByHand: FO3, some of them in figures.
func TestReckonedByHand(t *testing.T) {
	numbers := "Number D0 =40000000; Number D1 =40400000;"
	for text, want := range map[string]string{
		"Copy D3 A1": "=40400000", "Add D3 A0 B1": "=40a00000", "Sub D3 A0 B1": "=bf800000", "Mul D3 A0 B1": "=40c00000", "Div D3 A0 B1": "=3f2aaaab", "Min D3 A0 B1": "=40000000",
		"Max D3 A0 B1": "=40400000", "Less D3 A0 B1": "=3f800000", "Less D3 A1 B0": "=00000000", "Sqrt D3 A0": "=3fb504f3", "Neg D3 A0": "=c0000000", "Abs D3 A1": "=40400000",
		"Finite D3 A0": "=3f800000", "Select D3 A0 B0 C1": "=40000000", "Sub D3 A1 B1": "=00000000", "Div D3 A1 B1": "=3f800000",
	} {
		holdList(t, numbers+text, numbers+"Number D3 "+want)
	}
	wholes := "Whole D4 N7; Whole D5 N2;"
	for text, want := range map[string]string{
		"Inc D7 A4": "N8", "Not D7 A4": "N0", "Less2 D7 A4 B5": "N0", "Less2 D7 A5 B4": "N1", "Same D7 A4 B5": "N0", "Same D7 A4 B4": "N1", "And D7 A4 B5": "N1",
		"Choose D7 A4 B5 C4": "N2", "Minus D7 A4 B5": "N5", "Minus D7 A5 B4": "N0", "Over D7 A4 B5": "N3", "Over D7 A5 B4": "N0",
	} {
		holdList(t, wholes+text, wholes+"Whole D7 "+want)
	}
	holdList(t, wholes+"From D3 A4", wholes+"Number D3 =40e00000")
	holdList(t, wholes+"Number D0 =40000000; Power D3 A0 B4", wholes+"Number D0 =40000000; Number D3 =43000000")
	holdList(t, wholes+"Number D0 =40000000; Test D7 A0", wholes+"Number D0 =40000000; Whole D7 N1")
	holdList(t, "Whole D4 N2147483647; Inc D7 A4; Whole D5; Over D6 A4 B5", "Whole D4 N2147483647; Whole D7 N2147483647; Whole D5; Whole D6")
	holdList(t, "Number D0; Number D1 =80000000; Add D2 A0 B1; Add D3 A1 B1", "Number D0; Number D1 =80000000; Number D2; Number D3 =80000000")
	holdList(t, "Number D0 =80000000; Mul D1 A0 B0; Sqrt D2 A0; Neg D3 A0", "Number D0 =80000000; Number D1; Number D2 =80000000; Number D3")
	holdList(t, "Number D0 =7f800000; Sub D1 A0 B0; Number D2; Mul D3 A0 B2", "Number D0 =7f800000; Number D1 =7fc00000; Number D2; Number D3 =7fc00000")
	holdList(t, "Number D0 =00000001; Number D1 =3f000000; Mul D2 A0 B1; Number D3 =00000003", "Number D0 =00000001; Number D1 =3f000000; Number D2; Number D3 =00000003")
}

// TestChainsReckoned: FO3, what is reckoned is constant for what follows.
func TestChainsReckoned(t *testing.T) {
	holdList(t, "Whole D4 N3; From D0 A4; Sqrt D1 A0; Test D5 A1; Inc D6 A5; Power D2 A0 B6; Less D3 A2 B0", "Whole D4 N3; Number D0 =40400000; Number D1 =3fddb3d7; Whole D5 N1; Whole D6 N2; Number D2 =41100000; Number D3")
	holdList(t, "Number D0 =3f000000; Add D1 A0 B0; Grad D8; Mul D9 A1 B8; Out A9", "Number D0 =3f000000; Number D1 =3f800000; Grad D8; Copy D9 A8; Out A9")
}

// TestNotReckoned: FO3 and FO4, what reads a register that is not constant stays, and so does what makes a vector, or reads one.
func TestNotReckoned(t *testing.T) {
	for _, op := range []string{"Add", "Sub", "Mul", "Div", "Min", "Max", "Less"} {
		holdStays(t, "Number D0 =40000000; Load D1; "+op+" D2 A0 B1; Store A2")
		holdStays(t, "Number D0 =40000000; Load D1; "+op+" D2 A1 B0; Store A2")
		holdStays(t, "Load D1; "+op+" D2 A1 B1; Store A2")
		holdStays(t, "Number D0 =40000000; Number D1 =40400000; "+op+" D8 A0 B1; Out A8")
		holdStays(t, "Number D0 =40000000; Loop; "+op+" D8 A0 B0; Out A8; Next")
	}
	for _, op := range []string{"Copy", "Sqrt", "Neg", "Abs", "Finite"} {
		holdStays(t, "Load D1; "+op+" D2 A1; Store A2")
		holdStays(t, "Number D0 =40000000; "+op+" D8 A0; Out A8")
		holdStays(t, "Number D0 =40000000; Loop N2; "+op+" D16 A0; Out A16; Next")
	}
	for _, op := range []string{"Less2", "Same", "And", "Minus", "Over"} {
		holdStays(t, "Whole D4 N2; Load D5 N1; "+op+" D6 A4 B5; "+op+" D7 A5 B4; Store A6 N1; Store A7 N6")
		holdStays(t, "Load D5 N1; "+op+" D6 A5 B5; Store A6 N1")
	}
	holdStays(t, "Load D5 N1; Inc D6 A5; Not D7 A5; From D0 A5; Store A0; Store A6 N1; Store A7 N6")
	holdStays(t, "Load D0; Whole D4 N2; Power D1 A0 B4; Load D5 N1; Number D2 =40000000; Power D3 A2 B5; Test D6 A0; Store A3; Store A6 N1")
	holdStays(t, "Load D0; Number D1 =40000000; Select D2 A0 B1 C1; Store A2")
	holdStays(t, "Load D4 N1; Whole D5 N1; Choose D6 A4 B5 C5; Store A6 N1")
	holdStays(t, "Number D0 =40000000; Copy D8 A0; Sum D1 A8; Least D2 A8; Add D3 A1 B2; Store A3")
	holdStays(t, "Whole D4 N3; Copy D5 A4; Inc D6 A5; Store A6 N1") // of copies those of numbers alone are named
	holdStays(t, "Grad D8; Copy D9 A8; Copy D10 A9; Load D0; Copy D1 A0; Copy D2 A1; Store A2; Out A10")
}
