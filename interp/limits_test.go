package interp

import (
	"slices"
	"testing"

	"lathe/api"
)

// TestMostInstructions: IN2 and IN4, MaxCode instructions, done and left out.
func TestMostInstructions(t *testing.T) {
	for _, n := range []string{"0", "1"} {
		c := usual("Whole D5; Whole D4 N" + n + "; When A4; Inc D5 A5; Inc D5 A5; End; Store A5 N1")
		inner := slices.Repeat(read("Inc D5 A5"), maxCode-len(c.List))
		c.List = slices.Insert(c.List, 3, inner...)
		r := begin(t, c)
		for range 3 {
			stepped(t, r, usualGrads(), usualParams())
			want := 0
			if n == "1" {
				want = maxCode - 5
			}
			holdSlot(t, r, 1, nil, want)
		}
	}
	c := usual("Whole D5 N7; Whole D4; Store A5 N1")
	for len(c.List)+2 <= maxCode {
		c.List = append(c.List, read("When A4; End")...)
	}
	r := begin(t, c)
	stepped(t, r, usualGrads(), usualParams())
	holdSlot(t, r, 1, nil, 7)
}

// TestMostNested: IN4, as many blocks as there may be, MaxNest in one another over and over, done and left out.
func TestMostNested(t *testing.T) {
	for _, n := range []string{"0", "1"} {
		c := usual("Whole D5; Whole D4 N" + n + "; Store A5 N1")
		for len(c.List)+2*maxNest+3 <= maxCode {
			c.List = append(c.List, slices.Repeat(read("When A4"), maxNest)...)
			c.List = append(c.List, read("Load D6 N1; Inc D6 A6; Store A6 N1")...)
			c.List = append(c.List, slices.Repeat(read("End"), maxNest)...)
		}
		want := 0
		if n == "1" {
			want = (maxCode - 3) / (2*maxNest + 3)
		}
		r := begin(t, c)
		for range 3 {
			stepped(t, r, usualGrads(), usualParams())
			holdSlot(t, r, 1, nil, want)
		}
	}
}

// TestMostRegisters: IN2, MaxRegs registers, each with something of its own.
func TestMostRegisters(t *testing.T) {
	c := api.Code{Sign: []api.Param{{Name: "w", Kind: 1, Len: 2}}, Slots: []api.Slot{{Type: wholeType(), Keep: true}, {Type: numberType(), Keep: true}, {Type: vectorType(0), Keep: true}}}
	for register := range maxRegs {
		c.Regs = append(c.Regs, []api.Type{wholeType(), numberType(), vectorType(0)}[register%3])
		i := []api.Inst{{Op: api.OpWhole, D: register, N: register}, {Op: api.OpNumber, D: register, Bits: api.F(register)}, {Op: api.OpCopy, D: register, A: register - 1}}[register%3]
		c.List = append(c.List, i)
	}
	for _, at := range []int{0, 3, 6000, maxRegs - 4} {
		at -= at % 3
		less := c
		less.List = append(slices.Clone(c.List), api.Inst{Op: api.OpStore, A: at}, api.Inst{Op: api.OpStore, A: at + 1, N: 1}, api.Inst{Op: api.OpStore, A: at + 2, N: 2})
		r := begin(t, less)
		stepped(t, r, [][]api.F{{0, 0}}, [][]api.F{{0, 0}})
		holdSlot(t, r, 0, nil, at)
		holdSlot(t, r, 1, []api.F{api.F(at + 1)}, 0)
		holdSlot(t, r, 2, []api.F{api.F(at + 1), api.F(at + 1)}, 0)
	}
}

// TestMostSlots: IN1 and IN3, MaxSlots slots of MaxLen elements, and clones of them.
func TestMostSlots(t *testing.T) {
	if testing.Short() {
		t.Skip("takes much memory")
	}
	c := api.Code{Sign: []api.Param{{Name: "w", Kind: 1, Len: maxLen}}, Regs: []api.Type{vectorType(0)}}
	for n := range maxSlots {
		c.Slots = append(c.Slots, api.Slot{Type: vectorType(0), Keep: n%2 == 0, Bits: api.F(n)})
	}
	c.List = read("Load D0 N4095; Store A0 N0; Grad D0; Store A0 N1; Out A0")
	r := begin(t, c)
	other := r.Clone()
	v := slices.Repeat([]api.F{one}, maxLen)
	for range 2 {
		if u := stepped(t, r, [][]api.F{v}, [][]api.F{v}); !slices.Equal(u[0], v) {
			t.Errorf("%08x", u[0][0])
		}
	}
	holdSlot(t, r, 0, slices.Repeat([]api.F{maxSlots - 1}, maxLen), 0)
	holdSlot(t, other, 0, slices.Repeat([]api.F{0}, maxLen), 0)
	holdSlot(t, r, 1, v, 0)
	for _, n := range []int{2, 3, maxSlots - 2, maxSlots - 1} {
		holdSlot(t, r, n, slices.Repeat([]api.F{api.F(n)}, maxLen), 0)
	}
	holdNoSlot(t, r, maxSlots)
}

// TestHeaviest: IN4, a step of as many instructions on as many elements as there may be ends.
func TestHeaviest(t *testing.T) {
	if testing.Short() {
		t.Skip("takes long")
	}
	c := api.Code{Sign: several(16, 1, maxLen), Regs: []api.Type{vectorType(15), numberType()}}
	c.List = append(read("Number D1 =3f800000; Grad D0"), slices.Repeat(read("Add D0 A0 B1"), maxCode-3)...)
	c.List = append(c.List, read("Out A0")...)
	r := begin(t, c)
	var grads [][]api.F
	for range c.Sign {
		grads = append(grads, make([]api.F, maxLen))
	}
	grads[15][7] = two
	u := stepped(t, r, grads, grads)
	for element, a := range u[15] {
		want := float32(maxCode - 3)
		if element == 7 {
			want += 2
		}
		if a != told(want) {
			t.Fatalf("%d: %08x", element, a)
		}
	}
}
