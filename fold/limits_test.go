package fold

import (
	"slices"
	"testing"

	"lathe/api"
	"lathe/samples"
)

// holdAllOps: behind folding there are these instructions alone.
func holdAllOps(t *testing.T, c api.Code, ops ...int) api.Code {
	t.Helper()
	d := holdForm(t, c)
	for at, i := range d.List {
		if !slices.Contains(ops, i.Op) {
			t.Fatalf("at %d of %d: %v", at, len(d.List), i)
		}
	}
	return d
}

// TestLongestChain: FO3, as many registers as there may be, each reckoned from the one ahead of it.
func TestLongestChain(t *testing.T) {
	c := api.Code{Regs: slices.Repeat([]api.Type{{Kind: 1}}, maxRegs), List: read("Number D0 =3f800000")}
	for register := 1; register < maxRegs; register++ {
		c.List = append(c.List, api.Inst{Op: api.OpAdd, D: register, A: register - 1, B: 0})
	}
	d := holdAllOps(t, c, api.OpNumber)
	if last := d.List[len(d.List)-1]; last != (api.Inst{Op: api.OpNumber, D: maxRegs - 1, Bits: 0x46800000}) {
		t.Errorf("%v", last)
	}
}

// TestChainBackward: FO3, registers each of which becomes constant by what stands behind what reads it.
func TestChainBackward(t *testing.T) {
	c := api.Code{Regs: slices.Repeat([]api.Type{{Kind: 1}}, maxRegs)}
	for register := range maxRegs {
		c.List = append(c.List, api.Inst{Op: api.OpNumber, D: register, Bits: three})
	}
	for register := maxRegs - 1; register > 0; register-- {
		c.List = append(c.List, api.Inst{Op: api.OpAbs, D: register, A: register - 1})
	}
	if d := holdAllOps(t, c, api.OpNumber); len(d.List) != 2*maxRegs-1 {
		t.Errorf("%d instructions", len(d.List))
	}
	c.List[0].Bits = 0xc0400000 // the other ones follow it no longer
	if d := holdForm(t, c); d.List[len(d.List)-1] != (api.Inst{Op: api.OpNumber, D: 1, Bits: three}) {
		t.Errorf("%v", d.List[len(d.List)-1])
	}
}

// TestBlocksBackward: FO3, blocks each of which goes when the one behind it has gone.
func TestBlocksBackward(t *testing.T) {
	const count = maxCode / 4
	c := api.Code{Regs: slices.Repeat([]api.Type{{Kind: 2}}, count)}
	for register := range count {
		c.List = append(c.List, api.Inst{Op: api.OpWhole, D: register})
	}
	for register := count - 1; register > 0; register-- {
		c.List = append(c.List, api.Inst{Op: api.OpWhen, A: register - 1}, api.Inst{Op: api.OpWhole, D: register, N: 1}, api.Inst{Op: api.OpEnd})
	}
	if d := holdAllOps(t, c, api.OpWhole); len(d.List) != count {
		t.Errorf("%d instructions", len(d.List))
	}
}

// TestOneRegister: FO3, one register that as many instructions set as there may be, each otherwise and in a block of its own that goes
// when the one behind it has gone.
func TestOneRegister(t *testing.T) {
	const count = maxCode / 5
	c := api.Code{Regs: append(slices.Repeat([]api.Type{{Kind: 2}}, count), api.Type{Kind: 2}, api.Type{Kind: 2})}
	for register := range count {
		c.List = append(c.List, api.Inst{Op: api.OpWhole, D: register})
	}
	for register := count - 1; register > 0; register-- {
		c.List = append(c.List, api.Inst{Op: api.OpWhen, A: register - 1}, api.Inst{Op: api.OpWhole, D: register, N: 1}, api.Inst{Op: api.OpWhole, D: count, N: register}, api.Inst{Op: api.OpEnd})
	}
	c.List = append(c.List, api.Inst{Op: api.OpWhole, D: count, N: 7}, api.Inst{Op: api.OpInc, D: count + 1, A: count})
	d := holdAllOps(t, c, api.OpWhole)
	if last := d.List[len(d.List)-1]; len(d.List) != count+2 || last != (api.Inst{Op: api.OpWhole, D: count + 1, N: 8}) {
		t.Errorf("%d instructions, the last one %v", len(d.List), last)
	}
}

// TestMostBlocks: FO3, as many blocks as there may be: empty ones, ones that go and ones that are always done, MaxNest in one another.
func TestMostBlocks(t *testing.T) {
	for _, ahead := range []string{"Load D4 N1", "Whole D4", "Whole D4 N1"} {
		c := usual(ahead)
		for len(c.List)+2 <= maxCode {
			c.List = append(c.List, read("When A4; End")...)
		}
		if d := holdForm(t, c); !slices.Equal(d.List, read(ahead)) {
			t.Errorf("%s", samples.Show(d))
		}
		c = usual(ahead)
		for len(c.List)+2*maxNest <= maxCode {
			c.List = append(c.List, slices.Repeat(read("When A4"), maxNest)...)
			c.List = append(c.List, slices.Repeat(read("End"), maxNest)...)
		}
		if d := holdForm(t, c); !slices.Equal(d.List, read(ahead)) {
			t.Errorf("%s", samples.Show(d))
		}
		c.List = append(c.List[:1:1], slices.Repeat(read("When A4; Store A4 N6"), maxNest)...)
		c.List = append(c.List, slices.Repeat(read("Store A4 N1"), maxCode-len(c.List)-maxNest)...)
		c.List = append(c.List, slices.Repeat(read("End"), maxNest)...)
		want := map[string]int{"Load D4 N1": maxCode, "Whole D4": 1, "Whole D4 N1": maxCode - 2*maxNest}[ahead]
		if d := holdForm(t, c); len(d.List) != want {
			t.Errorf("%d instructions, want %d", len(d.List), want)
		}
	}
}

// TestMost: FO1, code as great as may be, with as many parameters and slots.
func TestMost(t *testing.T) {
	var c api.Code
	for i := range 64 {
		c.Sign = append(c.Sign, api.Param{Name: string([]byte{'a' + byte(i/8), 'a' + byte(i%8)}), Kind: 1, Len: 1024})
	}
	for register := range maxRegs {
		c.Regs = append(c.Regs, api.Type{Kind: 3, Param: register % 64})
	}
	c.Regs[0] = api.Type{Kind: 1}
	for n := range maxSlots {
		c.Slots = append(c.Slots, api.Slot{Type: api.Type{Kind: 3, Param: n % 64}, Keep: n%3 > 0, Bits: api.F(n)})
	}
	c.List = read("Number D0 =3f800000")
	for at := 1; at < maxCode; at += 2 {
		register := at%(maxRegs-64) + 64
		c.List = append(c.List, api.Inst{Op: api.OpGrad, D: register}, api.Inst{Op: api.OpMul, D: register, A: register, B: 0})
	}
	c.List = c.List[:maxCode]
	d := holdAllOps(t, c, api.OpNumber, api.OpGrad, api.OpCopy)
	if len(d.List) != maxCode {
		t.Errorf("%d instructions", len(d.List))
	}
}
