package interp

import (
	"slices"
	"testing"

	"lathe/api"
	"lathe/samples"
)

// beginning is what the slots of the usual code hold at the beginning.
func beginning() []box {
	return []box{
		{patterns: []api.F{0}}, {}, {patterns: []api.F{0, 0, 0}}, {patterns: []api.F{0, 0}}, {patterns: []api.F{0}},
		{patterns: []api.F{minus}}, {whole: 9}, {patterns: []api.F{nan, nan, nan}}, {patterns: []api.F{0xff800000, 0xff800000}}, {patterns: []api.F{two}},
	}
}

// holdSlots: each slot holds what stands there.
func holdSlots(t *testing.T, r *Run, want []box) {
	t.Helper()
	for n, b := range want {
		holdSlot(t, r, n, b.patterns, b.whole)
	}
	holdNoSlot(t, r, len(want))
}

// TestBeginning: IN1 and IN3, ahead of the first step each slot holds its Bits (Int) everywhere, with Keep or without; of a complex
// parameter's vector as many as it has elements.
func TestBeginning(t *testing.T) {
	holdSlots(t, begin(t, usual("")), beginning())
	r, _ := done(t, "")
	holdSlots(t, r, beginning())
	for _, keep := range []bool{true, false} {
		c := api.Code{Sign: []api.Param{{Name: "a", Kind: 2, Len: 4096}, {Name: "b", Kind: 1, Len: 1}}}
		var want []box
		for _, a := range canonical() {
			c.Slots = append(c.Slots, api.Slot{Type: numberType(), Keep: keep, Bits: a}, api.Slot{Type: vectorType(0), Keep: keep, Bits: a}, api.Slot{Type: vectorType(1), Keep: keep, Bits: a})
			want = append(want, box{patterns: []api.F{a}}, box{patterns: slices.Repeat([]api.F{a}, 4096)}, box{patterns: []api.F{a}})
		}
		for _, n := range wholes() {
			c.Slots = append(c.Slots, api.Slot{Type: wholeType(), Keep: keep, Int: n})
			want = append(want, box{whole: n})
		}
		r := begin(t, c)
		holdSlots(t, r, want)
		g := &samples.Grower{Source: 4}
		for range 2 {
			stepped(t, r, g.Vectors(c.Sign), g.Vectors(c.Sign))
			holdSlots(t, r, want)
		}
		holdSlots(t, r.Clone(), want)
	}
}

// TestStored: IN2 and IN3, what was stored is there behind the step, also in a slot without Keep, and is what was loaded from then on.
func TestStored(t *testing.T) {
	r, u := done(t, "Number D0 =40400000; Store A0; Store A0 N5; Whole D4 N7; Store A4 N1; Store A4 N6; Grad D8; Store A8 N2; Param D9; Store A9 N7; "+
		"Grad D12; Store A12 N3; Grad D13 N1; Store A13 N8; Grad D16; Store A16 N4; Param D17; Store A17 N9; "+
		"Load D10 N2; Load D11 N7; Add D10 A10 B11; Out A10; Load D14 N3; Out A14 N1; Load D15 N8; Out A15; Load D17 N9; Out A17")
	holdSlots(t, r, []box{
		{patterns: []api.F{three}}, {whole: 7}, {patterns: []api.F{one, two, three}}, {patterns: []api.F{four, five}}, {patterns: []api.F{six}},
		{patterns: []api.F{three}}, {whole: 7}, {patterns: []api.F{0xbf800000, inf, 0}}, {patterns: []api.F{half, minus}}, {patterns: []api.F{0x41200000}},
	})
	if want := [][]api.F{{0, inf, three}, {half, four, minus, five}, {0x41200000}}; !same(u, want) {
		t.Errorf("%08x, want %08x", u, want)
	}
	r, _ = done(t, "Number D0 =40400000; Store A0; Number D0 =40000000; Grad D8; Store A8 N2; Neg D8 A8; Whole D4 N3; Store A4 N1; Inc D4 A4")
	holdSlot(t, r, 0, []api.F{three}, 0) // a register that is set later changes nothing in the slot
	holdSlot(t, r, 1, nil, 3)
	holdSlot(t, r, 2, []api.F{one, two, three}, 0)
	holdNumber(t, "Number D1 =40400000; Store A1 N5; Load D0 N5; Store A0 N5; Number D1; Store A1 N5", three) // nor the other way round
	holdVector(t, "Grad D9; Store A9 N2; Load D8 N2; Param D9; Store A9 N2", one, two, three)
	holdWhole(t, "Load D4 N6; Whole D5 N1; Store A5 N6", 9)
	holdNumber(t, "Load D0 N5", minus)
	holdVector(t, "Load D8 N7", nan, nan, nan)
	holdNumber(t, "Load D1 N0; Load D0 N5; Number D2 =3f800000; Store A2 N5; Store A2 N0; Add D0 A0 B1", 0)
}

// TestKept: IN2, slots with Keep go on from step to step; those without begin anew at each.
func TestKept(t *testing.T) {
	c := usual("Number D1 =3f800000; Load D0; Add D0 A0 B1; Store A0; Load D0 N5; Add D0 A0 B1; Store A0 N5; Load D4 N1; Inc D4 A4; Store A4 N1; Load D4 N6; Inc D4 A4; Store A4 N6;" +
		"Grad D9; Load D8 N2; Add D8 A8 B9; Store A8 N2; Load D8 N7; Select D8 A8 B8 C9; Store A8 N7;" +
		"Grad D13 N1; Load D12 N3; Add D12 A12 B13; Store A12 N3; Load D12 N8; Max D12 A12 B13; Store A12 N8; Load D16 N4; Sub D16 A16 B1; Store A16 N4; Load D16 N9; Sub D16 A16 B1; Store A16 N9")
	r := begin(t, c)
	for step := range 5 {
		count := float32(step + 1)
		stepped(t, r, usualGrads(), usualParams())
		holdSlots(t, r, []box{
			{patterns: []api.F{told(count)}}, {whole: step + 1}, {patterns: []api.F{told(count), told(2 * count), told(3 * count)}}, {patterns: []api.F{told(count / 2), 0}}, {patterns: []api.F{told(-count)}},
			{patterns: []api.F{one}}, {whole: 10}, {patterns: []api.F{one, two, three}}, {patterns: []api.F{half, minus}}, {patterns: []api.F{one}},
		})
	}
}

// TestLeftAsTheyAre: IN2 and IN3, a step in which nothing is stored leaves the slots with Keep, and puts the others to their beginning.
func TestLeftAsTheyAre(t *testing.T) {
	c := usual("Load D4 N1; Inc D5 A4; Store A5 N1; Whole D6 N2; Less2 D6 A4 B6; When A6; Grad D8; Store A8 N2; Store A8 N7; Number D0 =40400000; Store A0; Store A0 N5; Store A4 N6; Grad D12; Store A12 N3; Store A12 N8; Grad D16; Store A16 N4; Store A16 N9; End")
	r := begin(t, c)
	for step := range 6 {
		stepped(t, r, [][]api.F{{one, two, told(float32(step))}, {four, half, five, minus}, {six}}, usualParams())
		last := told(float32(min(step, 1)))
		want := []box{{patterns: []api.F{three}}, {whole: step + 1}, {patterns: []api.F{one, two, last}}, {patterns: []api.F{four, five}}, {patterns: []api.F{six}}}
		if step < 2 {
			want = append(want, box{patterns: []api.F{three}}, box{whole: step}, box{patterns: []api.F{one, two, last}}, box{patterns: []api.F{four, five}}, box{patterns: []api.F{six}})
		} else {
			want = append(want, beginning()[5:]...)
		}
		holdSlots(t, r, want)
	}
}

// TestCountsOn: IN2 and P9, a count in a slot comes to MaxCount and stays there; the run goes on.
func TestCountsOn(t *testing.T) {
	c := usual("Load D4 N1; Inc D4 A4; Store A4 N1; From D0 A4; Store A0; Grad D8; Load D9 N2; Add D8 A8 B9; Store A8 N2; Out A8; Whole D5 N2147483647; Same D6 A4 B5; Store A6 N6")
	c.Slots[1].Int = maxCount - 3
	r := begin(t, c)
	for step, want := range []int{maxCount - 2, maxCount - 1, maxCount, maxCount, maxCount, maxCount} {
		u := stepped(t, r, usualGrads(), usualParams())
		holdSlot(t, r, 1, nil, want)
		holdSlot(t, r, 0, []api.F{0x4f000000}, 0)
		holdSlot(t, r, 6, nil, wantInt(want == maxCount))
		if u[0][0] != told(float32(step+1)) {
			t.Errorf("step %d: %08x", step, u)
		}
	}
}

// TestBetweenSteps: IN3, asking changes nothing, however often, ahead of, between and behind steps.
func TestBetweenSteps(t *testing.T) {
	g := &samples.Grower{Source: 5}
	for range 300 {
		c := g.Code(40)
		r, other := begin(t, c), begin(t, c)
		for range 4 {
			for range 1 + g.Below(3) {
				for n := range len(c.Slots) + 1 {
					_, _, _ = r.Slot(n)
				}
			}
			grads, params := g.Vectors(c.Sign), g.Vectors(c.Sign)
			u, v := stepped(t, r, grads, params), stepped(t, other, grads, params)
			if !same(u, v) {
				t.Errorf("%08x, want %08x: %s", u, v, samples.Show(c))
			}
			holdAlike(t, r, other, len(c.Slots))
		}
	}
}

// holdAlike: two runs' slots hold the same.
func holdAlike(t *testing.T, r, other *Run, slots int) {
	t.Helper()
	for n := range slots {
		a, whole, _ := other.Slot(n)
		holdSlot(t, r, n, a, whole)
	}
}
