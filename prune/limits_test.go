package prune

import (
	"slices"
	"testing"

	"lathe/api"
	"lathe/ir"
	"lathe/samples"
)

// over is code over one parameter with so many registers that hold its vectors, and so many kept slots for them.
func over(regs, slots int, text string) api.Code {
	v := api.Type{Kind: 3}
	return api.Code{Sign: []api.Param{{Name: "w", Kind: 1, Len: 1}}, Regs: slices.Repeat([]api.Type{v}, regs), Slots: slices.Repeat([]api.Slot{{Type: v, Keep: true}}, slots), List: read(text)}
}

// holdLimit: PN1 and PN2 of code, and that it becomes that one.
func holdLimit(t *testing.T, c, want api.Code) {
	t.Helper()
	d := holdForm(t, c)
	if !ir.Equal(d, want) {
		t.Fatalf("%s became %s, want %s", samples.Show(c), samples.Show(d), samples.Show(want))
	}
	holdMeaning(t, &samples.Grower{Source: 3}, c, d, markedSlots(t, c), 1)
}

// TestLongestChain: PN1, as many registers as there may be, each hanging on the one ahead of it: all are needed, or none.
func TestLongestChain(t *testing.T) {
	c := over(maxRegs, 0, "Grad D0")
	for register := 1; register < maxRegs; register++ {
		c.List = append(c.List, api.Inst{Op: api.OpNeg, D: register, A: register - 1})
	}
	last := append(c.List, api.Inst{Op: api.OpOut, A: maxRegs - 1})
	c.List = append(slices.Clone(c.List), read("Out A0")...)
	holdLimit(t, c, over(1, 0, "Grad D0; Out A0"))
	c.List = last
	holdLimit(t, c, c)
}

// TestLongestHandOn: PN1, as many slots as there may be, each handing on what the one behind it holds, a step for each: what leads
// forward is needed in as many turns as there are slots.
func TestLongestHandOn(t *testing.T) {
	for _, isBackward := range []bool{false, true} {
		c := over(maxSlots, maxSlots, "")
		for n := range maxSlots - 1 {
			c.List = append(c.List, api.Inst{Op: api.OpLoad, D: n + 1, N: n + 1}, api.Inst{Op: api.OpStore, A: n + 1, N: n})
		}
		if isBackward {
			slices.Reverse(c.List)
			for at := range len(c.List) / 2 {
				c.List[2*at], c.List[2*at+1] = c.List[2*at+1], c.List[2*at]
			}
		}
		c.List = append(read("Load D0; Out A0"), c.List...)
		c.List = append(c.List, read("Grad D1; Store A1 N4095")...)
		holdLimit(t, c, c)
		c.List = slices.Clone(c.List)
		c.List[0] = api.Inst{Op: api.OpGrad}
		holdLimit(t, c, over(1, 0, "Grad D0; Out A0"))
	}
}

// TestManyOfOne: PN1, as many instructions as there may be, which all set and read one register, and load and store one slot.
func TestManyOfOne(t *testing.T) {
	c := over(1, 1, "Grad D0")
	c.List = append(c.List, slices.Repeat(read("Store; Load D0; Neg D0 A0"), maxCode/3-1)...)
	c.List = append(c.List, read("Out A0")...)
	holdLimit(t, c, c)
	c.List[len(c.List)-1] = read("Neg D0 A0")[0]
	holdLimit(t, c, api.Code{Sign: c.Sign})
}

// TestDeepest: PN1, MaxNest blocks in one another, with an OpOut at each depth in turn: the blocks around it are needed, and no others.
func TestDeepest(t *testing.T) {
	ends := slices.Repeat(read("End"), maxNest)
	for depth := range maxNest + 1 {
		c := usual("Grad D8; Load D4 N1")
		want := api.Code{Sign: c.Sign, Regs: []api.Type{{Kind: 2}, {Kind: 3}}, Slots: c.Slots[1:2], List: read("Grad D1; Load D0 N0")}
		for level := range maxNest {
			c.List = append(c.List, read("When A4; Neg D9 A8; Store A9 N2")...)
			if level < depth {
				want.List = append(want.List, read("When A0")...)
			}
		}
		c.List = append(c.List, ends[depth:]...)
		c.List = append(append(c.List, read("Out A8")...), ends[:depth]...)
		want.List = append(append(want.List, read("Out A1")...), ends[:depth]...)
		if depth == 0 {
			want = api.Code{Sign: c.Sign, Regs: []api.Type{{Kind: 3}}, List: read("Grad D0; Out A0")}
		}
		holdLimit(t, c, want)
	}
}

// TestMostBlocks: PN1, as many blocks as there may be, of which every third one is needed.
func TestMostBlocks(t *testing.T) {
	c := usual("Load D4 N1; Grad D8; Grad D12")
	want := api.Code{Sign: c.Sign, Regs: []api.Type{{Kind: 2}, {Kind: 3}, {Kind: 3, Param: 1}}, Slots: c.Slots[1:2], List: read("Load D0; Grad D1; Grad D2")}
	for block := range maxCode/3 - 1 {
		switch block % 3 {
		case 0:
			c.List = append(c.List, read("When A4; Out A8; End")...)
			want.List = append(want.List, read("When A0; Out A1; End")...)
		case 1:
			c.List = append(c.List, read("Loop N1; Neg D13 A12; Next")...)
		default:
			c.List = append(c.List, read("Loop N1; Out A12 N1; Next")...)
			want.List = append(want.List, read("Loop N1; Out A2 N1; Next")...)
		}
	}
	holdLimit(t, c, want)
}

// TestMost: PN1, code as great as may be, with as many parameters, registers and slots, of which all are needed, or every other one.
func TestMost(t *testing.T) {
	var c api.Code
	for i := range 64 {
		c.Sign = append(c.Sign, api.Param{Name: string([]byte{'a' + byte(i/8), 'a' + byte(i%8)}), Kind: 1, Len: 1024})
	}
	for register := range maxRegs {
		c.Regs = append(c.Regs, api.Type{Kind: 3, Param: register % 64})
	}
	for n := range maxSlots {
		c.Slots = append(c.Slots, api.Slot{Type: api.Type{Kind: 3, Param: n % 64}, Keep: n%3 > 0, Bits: api.F(n)})
	}
	for register := range maxRegs {
		c.List = append(c.List, api.Inst{Op: api.OpLoad, D: register, N: register % maxSlots}, api.Inst{Op: api.OpOut, A: register})
	}
	if d := holdForm(t, c); len(c.List) != maxCode || !ir.Equal(d, c) {
		t.Errorf("%s", samples.Show(d))
	}
	want := api.Code{Sign: c.Sign}
	for register := range maxRegs {
		if register%2 == 0 {
			c.List[2*register+1] = api.Inst{Op: api.OpStore, A: register, N: register % maxSlots}
			continue
		}
		at := len(want.Regs)
		want.Regs = append(want.Regs, c.Regs[register])
		want.List = append(want.List, api.Inst{Op: api.OpLoad, D: at, N: at % (maxSlots / 2)}, api.Inst{Op: api.OpOut, A: at})
		if register < maxSlots {
			want.Slots = append(want.Slots, c.Slots[register])
		}
	}
	if d := holdForm(t, c); !ir.Equal(d, want) {
		t.Errorf("%s, want %s", samples.Show(d), samples.Show(want))
	}
}
