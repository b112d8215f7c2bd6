package interp

import (
	"fmt"
	"testing"

	"lathe/api"
)

// wholes are some of every kind.
func wholes() []int {
	return []int{0, 1, 2, 3, 4, 7, 10, 255, 256, 1 << 16, 1<<24 - 1, 1 << 24, 1<<24 + 1, 1<<30 - 1, 1 << 30, 1<<30 + 1, maxCount - 2, maxCount - 1, maxCount}
}

// TestNumber: IN2, a number with every pattern that it may have; the last one counts.
func TestNumber(t *testing.T) {
	for _, a := range canonical() {
		holdNumber(t, fmt.Sprintf("Number D0 =%08x", uint32(a)), a)
		holdNumber(t, fmt.Sprintf("Number D0 =3f800000; Number D1 =40000000; Number D0 =%08x", uint32(a)), a)
	}
	for _, n := range wholes() {
		holdWhole(t, fmt.Sprintf("Whole D4 N%d", n), n)
		holdWhole(t, fmt.Sprintf("Whole D4 N5; Whole D5 N6; Whole D4 N%d", n), n)
	}
}

// TestWholes: IN2, each instruction of whole numbers, all of them against each other.
func TestWholes(t *testing.T) {
	for op := 21; op <= 28; op++ {
		i := api.Inst{Op: op, D: 4, A: 5, B: 6, C: 7}
		if op != 26 {
			i.C = 0
		}
		if op == 21 || op == 25 {
			i.B = 0
		}
		c := usual("Load D5 N1; Load D6 N6; Load D7 N10")
		c.List = append(append(c.List, i), read("Store A4 N11")...)
		c.Slots = append(c.Slots, api.Slot{Type: wholeType(), Keep: true}, api.Slot{Type: wholeType(), Keep: true})
		for j, a := range wholes() {
			for k, b := range wholes() {
				third := wholes()[(3*j+5*k)%len(wholes())]
				c.Slots[1].Int, c.Slots[6].Int, c.Slots[10].Int = a, b, third
				r := begin(t, c)
				stepped(t, r, usualGrads(), usualParams())
				holdSlot(t, r, 11, nil, wantWhole(op, a, b, third))
			}
		}
	}
}

// TestWholesPlain: IN2, a few by hand.
func TestWholesPlain(t *testing.T) {
	at := func(a, b int) string { return fmt.Sprintf("Whole D5 N%d; Whole D6 N%d; ", a, b) }
	for _, c := range []struct {
		name     string
		a, b     int
		turned   int
		straight int
	}{
		{"Less2", 3, 4, 0, 1}, {"Less2", 4, 4, 0, 0}, {"Less2", 0, maxCount, 0, 1}, {"Less2", 0, 0, 0, 0},
		{"Same", 3, 4, 0, 0}, {"Same", 4, 4, 1, 1}, {"Same", 0, 0, 1, 1}, {"Same", maxCount, maxCount - 1, 0, 0},
		{"And", 3, 4, 1, 1}, {"And", 0, 4, 0, 0}, {"And", 0, 0, 0, 0}, {"And", 1, 2, 1, 1}, {"And", maxCount, maxCount, 1, 1},
		{"Minus", 3, 4, 1, 0}, {"Minus", 0, maxCount, maxCount, 0}, {"Minus", 4, 4, 0, 0}, {"Minus", maxCount - 1, maxCount, 1, 0},
		{"Over", 7, 2, 0, 3}, {"Over", 0, 2, 0, 0}, {"Over", 0, 0, 0, 0}, {"Over", maxCount, 1, 0, maxCount}, {"Over", maxCount, maxCount - 1, 0, 1}, {"Over", 6, 3, 0, 2}, {"Over", 5, 0, 0, 0},
	} {
		holdWhole(t, at(c.a, c.b)+c.name+" D4 A5 B6", c.straight)
		holdWhole(t, at(c.a, c.b)+c.name+" D4 A6 B5", c.turned)
	}
	holdWhole(t, at(2, 3)+"Choose D4 A5 B5 C6", 2)
	holdWhole(t, at(0, 3)+"Choose D4 A5 B5 C6", 3)
	holdWhole(t, at(maxCount, 3)+"Choose D4 A5 B6 C5", 3)
	holdWhole(t, at(0, 3)+"Choose D4 A5 B6 C5", 0)
	holdWhole(t, "Whole D4 N3; Not D4 A4", 0)
	holdWhole(t, "Whole D4; Not D4 A4", 1)
	holdWhole(t, "Whole D4; Not D4 A4; Not D4 A4", 0)
	holdWhole(t, "Whole D4 N2147483645; Inc D4 A4", maxCount-1)
	holdWhole(t, "Whole D4 N2147483646; Inc D4 A4", maxCount)
	holdWhole(t, "Whole D4 N2147483647; Inc D4 A4", maxCount)
	holdWhole(t, "Whole D4 N2147483647; Inc D4 A4; Inc D4 A4; Inc D4 A4", maxCount)
	holdWhole(t, "Whole D4; Inc D4 A4; Inc D4 A4", 2)
	holdWhole(t, "Whole D4 N9; Minus D4 A4 B4", 0)
	holdWhole(t, "Whole D4 N9; Over D4 A4 B4", 1)
}

// TestPower: IN2, float.Power of every kind of number and count.
func TestPower(t *testing.T) {
	for _, a := range canonical() {
		for _, n := range append(wholes(), 5, 31, 62, 100, 1024) {
			holdNumber(t, fmt.Sprintf("Number D1 =%08x; Whole D5 N%d; Power D0 A1 B5", uint32(a), n), wantPower(a, n))
		}
	}
	holdNumber(t, "Number D1 =3fc00000; Whole D5 N5; Power D0 A1 B5", 0x40f30000)
	holdNumber(t, "Number D0 =7fc00000; Whole D5; Power D0 A0 B5", one)
	holdNumber(t, "Number D0 =bf800000; Whole D5 N2147483647; Power D0 A0 B5", 0xbf800000)
	holdNumber(t, "Number D0 =bf800000; Whole D5 N2147483646; Power D0 A0 B5", one)
	holdNumber(t, "Number D0 =3f000000; Whole D5 N2147483647; Power D0 A0 B5", 0)
}

// TestFrom: IN2, float.FromInt.
func TestFrom(t *testing.T) {
	for _, n := range wholes() {
		holdNumber(t, fmt.Sprintf("Whole D5 N%d; From D0 A5", n), told(float32(n)))
	}
	for n, want := range map[int]api.F{0: 0, 1: one, 2: two, 16777217: 0x4b800000, 16777219: 0x4b800002, maxCount: 0x4f000000} {
		holdNumber(t, fmt.Sprintf("Whole D5 N%d; From D0 A5", n), want)
	}
}

// TestTest: IN2, 1, if it is neither a nought nor a NaN.
func TestTest(t *testing.T) {
	for _, a := range canonical() {
		want := 1
		if a == nought || a == minus || a == nan {
			want = 0
		}
		holdWhole(t, fmt.Sprintf("Number D1 =%08x; Test D4 A1", uint32(a)), want)
	}
	for a, want := range map[api.F]int{0: 0, minus: 0, nan: 0, 1: 1, 0x80000001: 1, one: 1, 0xbf800000: 1, inf: 1, 0xff800000: 1} {
		holdWhole(t, fmt.Sprintf("Whole D4 N7; Number D0 =%08x; Test D4 A0", uint32(a)), want)
	}
}

// TestGathered: IN2, vector.Sum and vector.Least, strictly in order.
func TestGathered(t *testing.T) {
	for _, c := range []struct {
		list       []api.F
		sum, least api.F
	}{
		{[]api.F{one, two, three}, six, one},
		{[]api.F{0x4b800000, one, one}, 0x4b800000, one},
		{[]api.F{one, one, 0x4b800000}, 0x4b800001, one},
		{[]api.F{minus, minus, minus}, 0, minus},
		{[]api.F{0, minus, 0}, 0, minus},
		{[]api.F{inf, one, 0xff800000}, nan, 0xff800000},
		{[]api.F{inf, inf, inf}, inf, inf},
		{[]api.F{one, 0x7f800001, 0xff800000}, nan, nan},
		{[]api.F{0xffffffff, one, two}, nan, nan},
		{[]api.F{0x7f7fffff, 0x7f7fffff, 0xff7fffff}, inf, 0xff7fffff},
		{[]api.F{0xff7fffff, 0x7f7fffff, 0x7f7fffff}, 0x7f7fffff, 0xff7fffff},
		{[]api.F{1, 1, 1}, 3, 1},
	} {
		r := begin(t, usual("Grad D8; Sum D0 A8; Least D1 A8; Store A0 N0; Store A1 N5"))
		grads := usualGrads()
		grads[0] = c.list
		stepped(t, r, grads, usualParams())
		holdSlot(t, r, 0, []api.F{c.sum}, 0)
		holdSlot(t, r, 5, []api.F{c.least}, 0)
	}
	holdNumber(t, "Grad D12 N0; Sum D0 A12", 0x41100000)
	holdNumber(t, "Grad D12 N1; Sum D0 A12", half)
	holdNumber(t, "Grad D12 N1; Least D0 A12", minus)
	holdNumber(t, "Grad D16; Sum D0 A16", six)
	holdNumber(t, "Number D1 =80000000; Copy D16 A1; Sum D0 A16", 0)
	holdNumber(t, "Number D1 =80000000; Copy D16 A1; Least D0 A16", minus)
}
