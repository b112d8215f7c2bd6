package vm

import (
	"testing"

	"lathe/api"
	"lathe/samples"
	"lathe/verify"
)

// TestSpent: VM2, by hand: where all is done it is the cost; a block that is left out is not paid for, nor its OpEnd; what stands in a loop
// is paid once.
func TestSpent(t *testing.T) {
	for text, want := range map[string]int{
		"": 0, "Grad D8; Sum D0 A8; Out A8": 9, "Grad D12 N1; Out A12 N1": 4, "Param D16; Neg D16 A16; Store A16 N4; Load D17 N9": 4,
		"Whole D4 N1; When A4; Number D0; Power D1 A0 B4; End":                          1 + 1 + 1 + 62 + 1,
		"Whole D4; When A4; Number D0; Power D1 A0 B4; End":                             1 + 1,
		"Whole D4 N7; Whole D5; When A4; When A5; Grad D8; End; Grad D12; End; Grad D9": 1 + 1 + 1 + 1 + 2 + 1 + 3,
		"Whole D5; When A5; Loop; Grad D8; Next; End; Loop N1; Grad D12; Next":          1 + 1 + 1 + 2 + 1,
		"Load D4 N6; When A4; Loop; Grad D8; Neg D9 A8; Out A9; Next; End; Not D4 A4":   1 + 1 + 1 + 9 + 1 + 1 + 1,
		"Load D4 N1; Inc D5 A4; Store A5 N1; When A4; Load D9 N2; Store A9 N7; End":     1 + 1 + 1 + 1,
		"Loop; Next": 2, "Loop N1; Next; Loop N2; Next": 4, "Whole D4; When A4; End": 2, "Whole D4 N1; When A4; End": 3, "Whole D4 N9; When A4; Loop; Next; End": 5,
		"Loop N1; Grad D12; Next; Sum D0 A12; Least D1 A12; Loop; Copy D8 A0; Abs D9 A8; Next": 1 + 2 + 1 + 2 + 2 + 1 + 3 + 3 + 1,
		"Whole D4; Whole D5 N1; Copy D6 A5; Inc D6 A6; Same D7 A4 B5; Choose D4 A5 B6 C7":      6,
	} {
		m := begin(t, usual(text))
		holdSpent(t, m, 0)
		stepped(t, m, usualGrads(), usualParams())
		holdSpent(t, m, want)
		if cost, _ := verify.Cost(usual(text)); want > cost {
			t.Errorf("%s: %d is above %d", text, want, cost)
		}
	}
	if cost, _ := verify.Cost(usual("Grad D8; Sum D0 A8; Loop N1; Grad D12; Next")); cost != 10 {
		t.Errorf("Cost = %d", cost)
	}
}

// TestSpentStepByStep: VM2, what the last step cost, not those ahead of it; nor does Set or Clone change it, nor a step with an error.
func TestSpentStepByStep(t *testing.T) {
	m := begin(t, usual("Load D4 N1; Not D5 A4; Store A5 N1; When A4; Load D9 N2; Store A9 N7; Number D0; Power D0 A0 B4; End"))
	for step := range 6 {
		stepped(t, m, usualGrads(), usualParams())
		want := 4
		if step%2 == 1 {
			want = 4 + 3 + 3 + 1 + 62 + 1
		}
		holdSpent(t, m, want)
		holdSpent(t, m.Clone(), want)
		if _, e := m.Step(nil, usualParams()); e != errInput {
			t.Errorf("Step = %d", e)
		}
		holdSpent(t, m, want)
		if m.Set(m.State()) != api.OK || m.Set(nil) != errArg {
			t.Error("Set is wrong")
		}
		holdSpent(t, m, want)
	}
}

// TestSpentLong: VM2, widths up to MaxLen, real and complex, in a loop and in none.
func TestSpentLong(t *testing.T) {
	for _, length := range []int{1, 2, 61, 62, 63, 1000, maxLen - 1, maxLen} {
		for kind := 1; kind <= 2; kind++ {
			v := vectorType(0)
			c := api.Code{Sign: []api.Param{{Name: "w", Kind: kind, Len: length}}, Regs: []api.Type{v, numberType()}, Slots: []api.Slot{{Type: v}}}
			grads := [][]api.F{make([]api.F, kind*length)}
			for _, text := range []string{"Grad D0; Neg D0 A0; Store A0; Load D0; Out A0", "Param D0; Add D0 A0 B0; Sum D1 A0; Mul D0 A0 B1; Least D1 A0"} {
				c.List = read(text)
				m := begin(t, c)
				stepped(t, m, grads, grads)
				holdSpent(t, m, 5*length)
			}
			c.List = read("Loop; Grad D0; Neg D0 A0; Store A0; Load D0; Out A0; Next")
			m := begin(t, c)
			stepped(t, m, grads, grads)
			holdSpent(t, m, 5*length+2)
		}
	}
}

// TestSpentFromAllOver: VM2 and VM4, just what the instructions cost that are done, at most verify.Cost: less where blocks are left out.
func TestSpentFromAllOver(t *testing.T) {
	g, all, less := &samples.Grower{Source: 16}, 0, 0
	for range 1500 {
		x := twinOf(t, g.Code(60))
		for range 3 {
			x.any(t, g)
			if x.m.Spent() < x.cost {
				less++
			} else {
				all++
			}
		}
	}
	if min(all, less) < 500 {
		t.Errorf("%d steps did all, %d less", all, less)
	}
}
