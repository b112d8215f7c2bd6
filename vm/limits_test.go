package vm

import (
	"slices"
	"testing"

	"lathe/api"
	"lathe/float"
	"lathe/samples"
	"lathe/verify"
)

// TestMostInstructions: VM2 and VM4, MaxCode instructions, done and left out.
func TestMostInstructions(t *testing.T) {
	for _, n := range []int{0, 1} {
		c := usual("Whole D5; Whole D4; When A4; Inc D5 A5; Inc D5 A5; End; Store A5 N1")
		c.List[1].N = n
		inner := slices.Repeat(read("Inc D5 A5"), maxCode-len(c.List))
		c.List = slices.Insert(c.List, 3, inner...)
		m := begin(t, c)
		for range 3 {
			stepped(t, m, usualGrads(), usualParams())
			holdState(t, m, 0, uint32(n*(maxCode-5)), 0, 0, 0, 0, 0, 0)
			holdSpent(t, m, 4+n*(maxCode-4))
		}
	}
	c := usual("Whole D5 N7; Whole D4; Store A5 N1")
	for len(c.List)+2 <= maxCode {
		c.List = append(c.List, read("When A4; End")...)
	}
	m := begin(t, c)
	stepped(t, m, usualGrads(), usualParams())
	holdState(t, m, 0, 7, 0, 0, 0, 0, 0, 0)
	holdSpent(t, m, 3+(maxCode-3)/2)
}

// TestMostNested: VM2 and VM4, as many blocks as there may be, MaxNest in one another over and over, done and left out.
func TestMostNested(t *testing.T) {
	for _, n := range []int{0, 1} {
		c := usual("Whole D5; Whole D4; Store A5 N1")
		c.List[1].N = n
		count := 0
		for len(c.List)+2*maxNest+3 <= maxCode {
			c.List = append(c.List, slices.Repeat(read("When A4"), maxNest)...)
			c.List = append(c.List, read("Load D6 N1; Inc D6 A6; Store A6 N1")...)
			c.List = append(c.List, slices.Repeat(read("End"), maxNest)...)
			count++
		}
		m := begin(t, c)
		for range 3 {
			stepped(t, m, usualGrads(), usualParams())
			holdState(t, m, 0, uint32(n*count), 0, 0, 0, 0, 0, 0)
			holdSpent(t, m, []int{3 + count, len(c.List)}[n])
		}
	}
}

// TestMostRegisters: VM2, MaxRegs registers, each with something of its own.
func TestMostRegisters(t *testing.T) {
	c := api.Code{Sign: []api.Param{{Name: "w", Kind: 1, Len: 2}}, Slots: []api.Slot{{Type: wholeType(), Keep: true}, {Type: numberType(), Keep: true}, {Type: vectorType(0), Keep: true}}}
	for register := range maxRegs {
		c.Regs = append(c.Regs, []api.Type{wholeType(), numberType(), vectorType(0)}[register%3])
		c.List = append(c.List, []api.Inst{{Op: api.OpWhole, D: register, N: register}, {Op: api.OpNumber, D: register, Bits: api.F(register)}, {Op: api.OpCopy, D: register, A: register - 1}}[register%3])
	}
	for _, at := range []int{0, 3, 6000, maxRegs - 4} {
		at -= at % 3
		less := c
		less.List = append(slices.Clone(c.List), api.Inst{Op: api.OpStore, A: at}, api.Inst{Op: api.OpStore, A: at + 1, N: 1}, api.Inst{Op: api.OpStore, A: at + 2, N: 2})
		m := begin(t, less)
		stepped(t, m, [][]api.F{{0, 0}}, [][]api.F{{0, 0}})
		holdState(t, m, uint32(at), uint32(at+1), uint32(at+1), uint32(at+1))
	}
}

// TestMostSlots: VM2 to VM4, MaxSlots slots of MaxLen elements, and clones of them.
func TestMostSlots(t *testing.T) {
	if testing.Short() {
		t.Skip("takes much memory")
	}
	c := api.Code{Sign: []api.Param{{Name: "w", Kind: 1, Len: maxLen - 1}}, Regs: []api.Type{vectorType(0)}}
	for n := range maxSlots {
		c.Slots = append(c.Slots, api.Slot{Type: vectorType(0), Keep: n%2 == 0, Bits: api.F(n)})
	}
	c.List = read("Load D0 N4095; Store A0 N0; Grad D0; Store A0 N1; Out A0")
	m := begin(t, c)
	other := m.Clone()
	v := slices.Repeat([]api.F{one}, maxLen-1)
	for range 2 {
		if u := stepped(t, m, [][]api.F{v}, [][]api.F{v}); !slices.Equal(u[0], v) {
			t.Errorf("%08x", u[0][0])
		}
	}
	held := func(m *Machine) []uint32 {
		var firsts []uint32
		state := m.State()
		if len(state) != maxSlots/2*(maxLen-1) {
			t.Fatalf("%d numbers", len(state))
		}
		for n := range maxSlots / 2 {
			piece := state[n*(maxLen-1) : (n+1)*(maxLen-1)]
			if slices.ContainsFunc(piece, func(a uint32) bool { return a != piece[0] }) {
				t.Errorf("unlike numbers in slot %d", 2*n)
			}
			firsts = append(firsts, piece[0])
		}
		return firsts
	}
	var want []uint32
	for n := range maxSlots / 2 {
		want = append(want, uint32(2*n))
	}
	if !slices.Equal(held(other), want) {
		t.Error("the clone has gone on")
	}
	want[0] = maxSlots - 1
	if !slices.Equal(held(m), want) {
		t.Error("the machine holds something else")
	}
	if e := other.Set(m.State()); e != api.OK || !slices.Equal(held(other), want) {
		t.Errorf("Set = %d", e)
	}
}

// TestHeaviest: VM4 and P6, a step of as many instructions on as many elements as there may be ends, without a loop and in one.
func TestHeaviest(t *testing.T) {
	if testing.Short() {
		t.Skip("takes long")
	}
	var c api.Code
	var grads [][]api.F
	for n := range 16 {
		c.Sign = append(c.Sign, api.Param{Name: string(rune('a' + n)), Kind: 1, Len: maxLen})
		grads = append(grads, make([]api.F, maxLen))
	}
	c.Regs = []api.Type{vectorType(15), numberType()}
	grads[15][7] = two
	for _, marks := range []int{0, 2} {
		sums := maxCode - 3 - marks
		c.List = append(read("Grad D0"), slices.Repeat(read("Add D0 A0 B1"), sums)...)
		c.List = append(c.List, read("Out A0")...)
		if marks == 2 {
			c.List = looped(c.List, 0)
			c.List[0].N = 15
		}
		c.List = append(read("Number D1 =3f800000"), c.List...)
		m := begin(t, c)
		u := stepped(t, m, grads, grads)
		for element, a := range u[15] {
			want := sums
			if element == 7 {
				want += 2
			}
			if a != float.FromInt(want) {
				t.Fatalf("%d: %08x", element, a)
			}
		}
		cost, _ := verify.Cost(c)
		holdSpent(t, m, cost)
	}
}

// TestLoopsOfNothing: VM2 and P6, as many loops as there may be with nothing in them, over as many elements: what is not paid for is not done.
func TestLoopsOfNothing(t *testing.T) {
	c := api.Code{Sign: []api.Param{{Name: "w", Kind: 1, Len: maxLen}}, List: slices.Repeat(read("Loop; Next"), maxCode/2)}
	m := begin(t, c)
	grads := [][]api.F{make([]api.F, maxLen)}
	for range 5000 { // were it done, they would take longer than a test may
		if u := stepped(t, m, grads, grads); !same(u, grads) {
			t.Fatal("there are updates")
		}
		holdSpent(t, m, maxCode)
	}
}

// TestBig: VM2, codes of many instructions, over long vectors, behind the passes.
func TestBig(t *testing.T) {
	g := &samples.Grower{Source: 41}
	for range 6 {
		c := g.SingleCode(4000)
		for n := range c.Sign {
			c.Sign[n].Len = 1 + g.Below(200)
		}
		holdBig(t, g, c, 3)
		holdBig(t, g, passed(t, c, 31), 3)
	}
}
