package reuse

import (
	"slices"
	"testing"

	"lathe/api"
	"lathe/samples"
)

// numbers is code with so many registers of numbers, as many as there may be.
func numbers(text string) api.Code {
	return api.Code{Regs: slices.Repeat([]api.Type{{Kind: 1}}, maxRegs), Slots: []api.Slot{{Type: api.Type{Kind: 1}, Keep: true}}, List: read(text)}
}

// holdLimit: RE1 to RE4 of code, and that it becomes one with those instructions.
func holdLimit(t *testing.T, c api.Code, want []api.Inst) {
	t.Helper()
	d := holdForm(t, c)
	if !slices.Equal(d.List, want) {
		t.Fatalf("%s, want %s", samples.Show(d), listed(want))
	}
	holdMeaning(t, &samples.Grower{Source: 3}, c, d, 1)
}

// TestLongestChain: RE3, as many registers as there may be, each a copy of the one ahead of it.
func TestLongestChain(t *testing.T) {
	c := numbers("Load D0")
	for register := 1; register < maxRegs; register++ {
		c.List = append(c.List, api.Inst{Op: api.OpCopy, D: register, A: register - 1})
	}
	c.List = append(c.List, api.Inst{Op: api.OpStore, A: maxRegs - 1})
	holdLimit(t, c, read("Load D0; Store A0"))
}

// TestMostTwins: RE3, as many twins as there may be, and reads of all of them.
func TestMostTwins(t *testing.T) {
	c := numbers("")
	want := read("Number D0 =40400000")
	for register := range maxRegs {
		c.List = append(c.List, api.Inst{Op: api.OpNumber, D: register, Bits: 0x40400000})
	}
	for register := range maxRegs {
		c.List = append(c.List, api.Inst{Op: api.OpStore, A: register})
		want = append(want, read("Store")...)
	}
	holdLimit(t, c, want)
}

// TestChainsSideBySide: RE3, two chains as long as may be, whose instructions become twins one after the other.
func TestChainsSideBySide(t *testing.T) {
	c := numbers("Load D0; Copy D1 A0")
	want := read("Load D0")
	for register := 2; register < maxRegs; register++ {
		c.List = append(c.List, api.Inst{Op: api.OpNeg, D: register, A: register - 2})
		if register%2 == 0 {
			want = append(want, c.List[len(c.List)-1])
		}
	}
	c.List = append(c.List, api.Inst{Op: api.OpStore, A: maxRegs - 1})
	want = append(want, api.Inst{Op: api.OpStore, A: maxRegs - 2})
	holdLimit(t, c, want)
}

// TestDeepest: RE3, twins at each depth of MaxNest blocks: downward all but the first go, upward all stay.
func TestDeepest(t *testing.T) {
	down, want := wide("Load D4 N1; Grad D8; Out A8"), read("Load D4 N1; Grad D8; Out A8")
	up := wide("Load D4 N1")
	up.Regs = slices.Concat(up.Regs, slices.Repeat([]api.Type{{Kind: 3}}, 3*maxNest))
	down.Regs = up.Regs
	for depth := range maxNest {
		register := 6*apart + depth
		down.List = append(down.List, api.Inst{Op: api.OpWhen, A: 4}, api.Inst{Op: api.OpGrad, D: register}, api.Inst{Op: api.OpOut, A: register})
		want = append(want, api.Inst{Op: api.OpWhen, A: 4}, api.Inst{Op: api.OpOut, A: 8})
		up.List = append(up.List, api.Inst{Op: api.OpWhen, A: 4})
	}
	ends := slices.Repeat(read("End"), maxNest)
	down.List, want = append(down.List, ends...), append(want, ends...)
	holdLimit(t, down, want)
	for depth := range maxNest + 1 {
		register := 6*apart + depth
		up.List = append(up.List, api.Inst{Op: api.OpGrad, D: register}, api.Inst{Op: api.OpStore, A: register, N: 2}, api.Inst{Op: api.OpEnd})
	}
	up.List = up.List[:len(up.List)-1]
	holdLimit(t, up, up.List)
}

// TestMostBlocks: RE3, as many blocks as there may be, with the same in each: in each its own stays, and ahead of all of them one.
func TestMostBlocks(t *testing.T) {
	const blocks = maxCode/3 - 2
	for _, isAhead := range []bool{false, true} {
		c := numbers("Load D0; Load D2 N1")
		c.Regs[2] = api.Type{Kind: 2}
		c.Slots = append(c.Slots, api.Slot{Type: api.Type{Kind: 2}, Int: 1})
		if isAhead {
			c.List = append(c.List, read("Neg D3 A0")...)
		}
		want := slices.Clone(c.List)
		for block := range blocks {
			i := api.Inst{Op: api.OpNeg, D: 4 + block, A: 0}
			c.List = append(c.List, api.Inst{Op: api.OpWhen, A: 2}, i, api.Inst{Op: api.OpEnd})
			want = append(want, api.Inst{Op: api.OpWhen, A: 2}, i, api.Inst{Op: api.OpEnd})
			if isAhead {
				want = append(want[:len(want)-2], api.Inst{Op: api.OpEnd})
			}
		}
		holdLimit(t, c, want)
	}
}

// TestManyUnlike: RE3, as many unlike instructions as there may be, which all stay, and their twins in a block, which all go.
func TestManyUnlike(t *testing.T) {
	c := numbers("")
	c.Regs[maxRegs-1] = api.Type{Kind: 2}
	const half = maxRegs/2 - 1
	for register := range half {
		c.List = append(c.List, api.Inst{Op: api.OpNumber, D: register, Bits: api.F(register)})
	}
	c.List = append(c.List, api.Inst{Op: api.OpWhole, D: maxRegs - 1, N: 1}, api.Inst{Op: api.OpWhen, A: maxRegs - 1})
	want := slices.Clone(c.List)
	for register := range half {
		c.List = append(c.List, api.Inst{Op: api.OpNumber, D: half + register, Bits: api.F(register)}, api.Inst{Op: api.OpStore, A: half + register})
		want = append(want, api.Inst{Op: api.OpStore, A: register})
	}
	c.List = append(c.List, read("End")...)
	holdLimit(t, c, append(want, read("End")...))
}

// TestOneRegister: RE2, as many instructions as there may be, all of which set one register, and stay.
func TestOneRegister(t *testing.T) {
	c := numbers("Load D0")
	c.List = append(c.List, slices.Repeat(read("Copy D0 A0; Neg D0 A0; Number D0 =3f800000"), maxCode/3-1)...)
	c.List = append(c.List, read("Store A0")...)
	holdLimit(t, c, c.List)
}

// TestMost: RE1, code as great as may be, with as many parameters, registers and slots.
func TestMost(t *testing.T) {
	var c api.Code
	for i := range 64 {
		c.Sign = append(c.Sign, api.Param{Name: string([]byte{'a' + byte(i/8), 'a' + byte(i%8)}), Kind: 1, Len: 1024})
	}
	for register := range maxRegs {
		c.Regs = append(c.Regs, api.Type{Kind: 3, Param: register % 64})
	}
	for n := range maxSlots {
		c.Slots = append(c.Slots, api.Slot{Type: api.Type{Kind: 3, Param: n % 64}, Keep: n%3 > 0, Bits: api.F(n)})
	}
	var want []api.Inst
	for register := range maxRegs {
		set, out := api.Inst{Op: api.OpGrad, D: register}, api.Inst{Op: api.OpOut, A: register}
		c.List = append(c.List, set, out)
		if register < 64 {
			want = append(want, set, out)
		} else {
			want = append(want, api.Inst{Op: api.OpOut, A: register % 64})
		}
	}
	if d := holdForm(t, c); len(c.List) != maxCode || !slices.Equal(d.List, want) {
		t.Errorf("%s", samples.Show(d))
	}
}
