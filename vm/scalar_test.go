package vm

import (
	"fmt"
	"slices"
	"testing"

	"lathe/api"
	"lathe/float"
	"lathe/samples"
	"lathe/vector"
)

// wholes are some of every kind.
func wholes() []int {
	return []int{0, 1, 2, 3, 4, 7, 10, 255, 256, 1 << 16, 1<<24 - 1, 1 << 24, 1<<24 + 1, 1<<30 - 1, 1 << 30, 1<<30 + 1, maxCount - 2, maxCount - 1, maxCount}
}

// TestNumber: VM2, a number with every pattern that it may have, and whole numbers; the last one counts.
func TestNumber(t *testing.T) {
	for _, a := range canonical() {
		holdNumber(t, fmt.Sprintf("Number D0 =%08x", uint32(a)), a)
		holdNumber(t, fmt.Sprintf("Number D0 =3f800000; Number D1 =40000000; Number D0 =%08x", uint32(a)), a)
	}
	for _, n := range wholes() {
		holdWhole(t, fmt.Sprintf("Whole D4 N%d", n), n)
		holdWhole(t, fmt.Sprintf("Whole D4 N5; Whole D5 N6; Whole D4 N%d", n), n)
	}
}

// holdScalars: VM2 and VM3, code with slots that are all kept, and are all numbers and whole numbers, does behind Set of each of these
// states what the interpreter does that begins so.
func holdScalars(t *testing.T, kinds []int, text string, states [][]uint32) {
	t.Helper()
	var c api.Code
	for _, kind := range kinds {
		c.Slots = append(c.Slots, api.Slot{Type: api.Type{Kind: kind}, Keep: true})
	}
	c.Regs = []api.Type{numberType(), numberType(), wholeType(), wholeType(), wholeType(), wholeType()}
	c.List = read(text)
	m := begin(t, c)
	for _, state := range states {
		holdBehind(t, c, m, state, nil)
	}
}

// TestWholes: VM2, each instruction of whole numbers, all of them against each other.
func TestWholes(t *testing.T) {
	var states [][]uint32
	for j, a := range wholes() {
		for k, b := range wholes() {
			states = append(states, []uint32{uint32(a), uint32(b), uint32(wholes()[(3*j+5*k)%len(wholes())]), 77})
		}
	}
	for op := 21; op <= 28; op++ {
		rest := []string{21: "A3", 22: "A3 B4", 23: "A3 B4", 24: "A3 B4", 25: "A3", 26: "A3 B4 C5", 27: "A3 B4", 28: "A3 B4"}[op]
		for _, d := range []string{"D2", "D3"} {
			holdScalars(t, []int{2, 2, 2, 2}, "Load D3; Load D4 N1; Load D5 N2;"+samples.Names()[op-1]+" "+d+" "+rest+"; Store A"+d[1:]+" N3", states)
		}
	}
	holdScalars(t, []int{2, 2, 2, 2}, "Load D3; Load D4 N1; Load D5 N2; Choose D2 A5 B4 C3; Copy D3 A2; Store A3 N3", states)
}

// TestWholesPlain: VM2, a few by hand.
func TestWholesPlain(t *testing.T) {
	at := func(a, b int) string { return fmt.Sprintf("Whole D5 N%d; Whole D6 N%d; ", a, b) }
	for _, c := range []struct {
		name             string
		a, b             int
		turned, straight int
	}{
		{"Less2", 3, 4, 0, 1}, {"Less2", 4, 4, 0, 0}, {"Less2", 0, maxCount, 0, 1}, {"Less2", 0, 0, 0, 0},
		{"Same", 3, 4, 0, 0}, {"Same", 4, 4, 1, 1}, {"Same", 0, 0, 1, 1}, {"Same", maxCount, maxCount - 1, 0, 0},
		{"And", 3, 4, 1, 1}, {"And", 0, 4, 0, 0}, {"And", 0, 0, 0, 0}, {"And", 1, 2, 1, 1}, {"And", maxCount, maxCount, 1, 1},
		{"Minus", 3, 4, 1, 0}, {"Minus", 0, maxCount, maxCount, 0}, {"Minus", 4, 4, 0, 0}, {"Minus", maxCount - 1, maxCount, 1, 0},
		{"Over", 7, 2, 0, 3}, {"Over", 0, 2, 0, 0}, {"Over", 0, 0, 0, 0}, {"Over", maxCount, 1, 0, maxCount}, {"Over", maxCount, maxCount - 1, 0, 1}, {"Over", 6, 3, 0, 2}, {"Over", 5, 0, 0, 0},
	} {
		holdWhole(t, at(c.a, c.b)+c.name+" D4 A5 B6", c.straight)
		holdWhole(t, at(c.a, c.b)+c.name+" D4 A6 B5", c.turned)
	}
	holdWhole(t, at(2, 3)+"Choose D4 A5 B5 C6", 2)
	holdWhole(t, at(0, 3)+"Choose D4 A5 B5 C6", 3)
	holdWhole(t, at(maxCount, 3)+"Choose D4 A5 B6 C5", 3)
	holdWhole(t, "Whole D4 N3; Not D4 A4", 0)
	holdWhole(t, "Whole D4; Not D4 A4", 1)
	holdWhole(t, "Whole D4 N2147483645; Inc D4 A4", maxCount-1)
	holdWhole(t, "Whole D4 N2147483646; Inc D4 A4", maxCount)
	holdWhole(t, "Whole D4 N2147483647; Inc D4 A4; Inc D4 A4", maxCount)
	holdWhole(t, "Whole D4 N9; Minus D4 A4 B4", 0)
	holdWhole(t, "Whole D4 N9; Over D4 A4 B4", 1)
}

// TestCountsOn: VM2, VM3 and P9, a count comes to MaxCount and stays there; the machine goes on, also one that is set so.
func TestCountsOn(t *testing.T) {
	c := usual("Load D4 N1; Inc D4 A4; Store A4 N1; From D0 A4; Store A0; Grad D8; Load D9 N2; Add D8 A8 B9; Store A8 N2; Out A8")
	other := begin(t, c)
	if e := other.Set([]uint32{0, maxCount - 3, 0, 0, 0, 0, 0, 0}); e != api.OK {
		t.Fatalf("Set = %d", e)
	}
	c.Slots[1].Int = maxCount - 3
	m := begin(t, c)
	for step, want := range []uint32{maxCount - 2, maxCount - 1, maxCount, maxCount, maxCount, maxCount} {
		for _, x := range []*Machine{m, other} {
			u := stepped(t, x, usualGrads(), usualParams())
			count := float.FromInt(step + 1)
			if state := x.State(); state[0] != 0x4f000000 || state[1] != want || state[2] != uint32(count) || u[0][0] != count {
				t.Errorf("step %d: %d, %08x", step, state, u)
			}
		}
	}
}

// TestPower: VM2, float.Power of every kind of number and count.
func TestPower(t *testing.T) {
	m := begin(t, usual("Load D0; Load D4 N1; Power D0 A0 B4; Store A0"))
	for _, a := range patterns() {
		for _, n := range append(wholes(), 5, 31, 62, 100, 1024) {
			if e := m.Set([]uint32{uint32(a), uint32(n), 0, 0, 0, 0, 0, 0}); e != api.OK {
				t.Fatalf("Set = %d", e)
			}
			stepped(t, m, usualGrads(), usualParams())
			if got, want := m.State()[0], float.Power(a, n); got != uint32(want) {
				t.Errorf("%08x to the power of %d: %08x, want %08x", a, n, got, want)
			}
			holdSpent(t, m, 1+1+62+1)
		}
	}
	holdNumber(t, "Number D1 =3fc00000; Whole D5 N5; Power D0 A1 B5", 0x40f30000)
	holdNumber(t, "Number D0 =7fc00000; Whole D5; Power D0 A0 B5", one)
	holdNumber(t, "Number D0 =bf800000; Whole D5 N2147483647; Power D0 A0 B5", 0xbf800000)
	holdNumber(t, "Number D0 =3f000000; Whole D5 N2147483647; Power D0 A0 B5", 0)
}

// TestFromAndTest: VM2, float.FromInt; and 1, if a number is neither a nought nor a NaN.
func TestFromAndTest(t *testing.T) {
	for n, want := range map[int]api.F{0: 0, 1: one, 2: two, 16777217: 0x4b800000, 16777219: 0x4b800002, maxCount: 0x4f000000} {
		holdNumber(t, fmt.Sprintf("Whole D5 N%d; From D0 A5", n), want)
	}
	var counts, numbers [][]uint32
	for _, n := range wholes() {
		counts = append(counts, []uint32{uint32(n), uint32(five)})
	}
	for _, a := range patterns() {
		numbers = append(numbers, []uint32{uint32(a), 7})
	}
	holdScalars(t, []int{2, 1}, "Load D2; From D0 A2; Store A0 N1", counts)
	holdScalars(t, []int{1, 2}, "Load D1; Test D2 A1; Store A2 N1", numbers)
	for a, want := range map[api.F]int{0: 0, minus: 0, nan: 0, 1: 1, 0x80000001: 1, one: 1, 0xbf800000: 1, inf: 1, 0xff800000: 1} {
		holdWhole(t, fmt.Sprintf("Whole D4 N7; Number D0 =%08x; Test D4 A0", uint32(a)), want)
	}
}

// TestGathered: VM2, vector.Sum and vector.Least, strictly in order.
func TestGathered(t *testing.T) {
	for _, x := range []struct {
		list       []api.F
		sum, least api.F
	}{
		{[]api.F{one, two, three}, six, one},
		{[]api.F{0x4b800000, one, one}, 0x4b800000, one},
		{[]api.F{one, one, 0x4b800000}, 0x4b800001, one},
		{[]api.F{minus, minus, minus}, 0, minus},
		{[]api.F{0, minus, 0}, 0, minus},
		{[]api.F{inf, one, 0xff800000}, nan, 0xff800000},
		{[]api.F{inf, inf, inf}, inf, inf},
		{[]api.F{one, 0x7f800001, 0xff800000}, nan, nan},
		{[]api.F{0xffffffff, one, two}, nan, nan},
		{[]api.F{0x7f7fffff, 0x7f7fffff, 0xff7fffff}, inf, 0xff7fffff},
		{[]api.F{0xff7fffff, 0x7f7fffff, 0x7f7fffff}, 0x7f7fffff, 0xff7fffff},
		{[]api.F{1, 1, 1}, 3, 1},
	} {
		m := begin(t, usual("Grad D8; Sum D0 A8; Store A0; Least D1 A8; Copy D9 A1; Store A9 N2"))
		stepped(t, m, [][]api.F{x.list, {0, 0, 0, 0}, {0}}, usualParams())
		holdState(t, m, uint32(x.sum), 0, uint32(x.least), uint32(x.least), uint32(x.least), 0, 0, 0)
	}
	holdNumber(t, "Grad D12 N0; Sum D0 A12", 0x41100000)
	holdNumber(t, "Grad D12 N1; Sum D0 A12", half)
	holdNumber(t, "Grad D12 N1; Least D0 A12", minus)
	holdNumber(t, "Grad D16; Sum D0 A16", six)
	holdNumber(t, "Number D1 =80000000; Copy D16 A1; Sum D0 A16", 0)
	holdNumber(t, "Number D1 =80000000; Copy D16 A1; Least D0 A16", minus)
}

// TestGatheredLong: VM2 and P10, sums and leasts of long vectors.
func TestGatheredLong(t *testing.T) {
	g := &samples.Grower{Source: 8}
	for _, length := range []int{1, 2, 63, 1000, maxLen} {
		v, n := vectorType(0), numberType()
		c := api.Code{Sign: []api.Param{{Name: "w", Kind: 1, Len: length}}, Regs: []api.Type{v, n, n}, Slots: []api.Slot{{Type: n, Keep: true}, {Type: n, Keep: true}}}
		c.List = read("Grad D0; Sum D1 A0; Least D2 A0; Store A1; Store A2 N1")
		m := begin(t, c)
		for range 20 {
			grads := [][]api.F{make([]api.F, length)}
			for k := range grads[0] {
				grads[0][k] = g.Near(one, 6)
			}
			if g.Below(8) == 0 {
				grads[0][g.Below(length)] = g.Pattern()
			}
			stepped(t, m, grads, grads)
			sum, least := vector.Sum(grads[0]), vector.Least(grads[0])
			if got := m.State(); !slices.Equal(got, words(sum, least)) {
				t.Errorf("%d: %08x, want %08x, %08x", length, got, sum, least)
			}
		}
	}
}
