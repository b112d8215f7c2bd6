package vm

import (
	"testing"

	"lathe/api"
	"lathe/samples"
)

// TestParts: VM2, OpGrad and OpParam are the part of D's parameter, OpOut that of the update: in a loop and in none.
func TestParts(t *testing.T) {
	w, z, u := []api.F{0, 0, 0}, []api.F{0, 0, 0, 0}, []api.F{0}
	for _, x := range []struct {
		loop, text string
		want       [][]api.F
	}{
		{"Loop", "Grad D8; Out A8", [][]api.F{{one, two, three}, z, u}},
		{"Loop", "Param D8; Out A8", [][]api.F{{0xbf800000, inf, 0}, z, u}},
		{"Loop N1", "Grad D12; Out A12", [][]api.F{w, {four, 0, five, 0}, u}},
		{"Loop N1", "Grad D12 N1; Out A12", [][]api.F{w, {half, 0, minus, 0}, u}},
		{"Loop N1", "Grad D12 N1; Out A12 N1", [][]api.F{w, {0, half, 0, minus}, u}},
		{"Loop N1", "Grad D12; Out A12 N1", [][]api.F{w, {0, four, 0, five}, u}},
		{"Loop N1", "Grad D12; Grad D13 N1; Out A12; Out A13 N1", [][]api.F{w, {four, half, five, minus}, u}},
		{"Loop N1", "Grad D12; Grad D13 N1; Out A12 N1; Out A13", [][]api.F{w, {half, four, minus, five}, u}},
		{"Loop N1", "Param D12; Param D13 N1; Out A12 N1; Out A13", [][]api.F{w, {2, 1, 4, 3}, u}},
		{"Loop N1", "Grad D12; Param D13 N1; Out A12; Out A13 N1", [][]api.F{w, {four, 2, five, 4}, u}},
		{"Loop N2", "Grad D16; Out A16", [][]api.F{w, z, {six}}},
		{"Loop N2", "Param D17; Out A17", [][]api.F{w, z, {0x41200000}}},
	} {
		holdUpdates(t, x.text, x.want...)
		holdUpdates(t, x.loop+";"+x.text+"; Next", x.want...)
	}
	holdUpdates(t, "Grad D17; Param D8; Out A8; Grad D15 N1; Out A15; Out A17", []api.F{0xbf800000, inf, 0}, []api.F{half, 0, minus, 0}, []api.F{six})
}

// TestCanonical: VM2, P12 and rule 5, each NaN comes in as the one, all other patterns as they are.
func TestCanonical(t *testing.T) {
	all := patterns()
	n := len(all)
	c := api.Code{Sign: []api.Param{{Name: "w", Kind: 1, Len: n}, {Name: "z", Kind: 2, Len: n}}, Regs: []api.Type{vectorType(0), vectorType(1), vectorType(1)}}
	c.Slots = []api.Slot{{Type: vectorType(0), Keep: true}, {Type: vectorType(1), Keep: true}, {Type: vectorType(1), Keep: true}}
	want, back, turned := make([]api.F, n), make([]api.F, n), make([]api.F, n)
	for i, a := range all {
		want[i], turned[n-1-i] = a, a
		if samples.IsNaN(a) {
			want[i] = nan
		}
		back[n-1-i] = want[i]
	}
	ends := "; Out A0; Out A1; Out A2 N1; Store A0; Store A1 N1; Store A2 N2"
	for place, text := range []string{"Grad D0; Grad D1; Grad D2 N1", "Param D0; Param D1; Param D2 N1", "Loop; Grad D0; Next; Loop N1; Grad D1; Grad D2 N1; Next", "Loop; Param D0; Next; Param D1; Loop N1; Param D2 N1; Next"} {
		c.List = read(text + ends)
		m := begin(t, c)
		vectors := [][][]api.F{{make([]api.F, n), make([]api.F, 2*n)}, {make([]api.F, n), make([]api.F, 2*n)}}
		vectors[place%2] = [][]api.F{all, inTurns(turned, all)}
		if u := stepped(t, m, vectors[0], vectors[1]); !same(u, [][]api.F{want, inTurns(back, want)}) {
			t.Errorf("%s: %08x", text, u)
		}
		holdState(t, m, append(append(words(want...), words(back...)...), words(want...)...)...)
	}
}

// TestOut: VM2, all updates are +0 at each step's beginning; what is put out last counts; a register that is set later changes nothing.
func TestOut(t *testing.T) {
	w, z, u := []api.F{one, two, three}, []api.F{0, 0, 0, 0}, []api.F{0}
	holdUpdates(t, "Grad D8; Out A8; Neg D8 A8", w, z, u)
	holdUpdates(t, "Grad D8; Neg D9 A8; Out A9; Out A8", w, z, u)
	holdUpdates(t, "Loop; Grad D8; Neg D9 A8; Out A9; Out A8; Neg D8 A8; Next", w, z, u)
	holdUpdates(t, "Grad D8; Neg D9 A8; Out A8; Out A8; Copy D8 A9", w, z, u)
	holdUpdates(t, "Grad D12; Neg D13 A12; Out A13 N1; Out A12; Out A12 N1", []api.F{0, 0, 0}, []api.F{four, four, five, five}, u)
	holdUpdates(t, "Grad D12; Grad D13 N1; Out A12; Out A13", []api.F{0, 0, 0}, []api.F{half, 0, minus, 0}, u)
	holdUpdates(t, "Grad D8; Grad D12; Grad D16", []api.F{0, 0, 0}, z, u)
}

// TestOutAnew: VM2, what was put out in one step is not there in the next one.
func TestOutAnew(t *testing.T) {
	m := begin(t, usual("Load D4 N1; Not D5 A4; Store A5 N1; When A5; Grad D8; Out A8; Grad D12 N1; Out A12 N1; End; When A4; Grad D16; Out A16; End"))
	for step := range 6 {
		want := [][]api.F{{one, two, three}, {0, half, 0, minus}, {0}}
		if step%2 == 1 {
			want = [][]api.F{{0, 0, 0}, {0, 0, 0, 0}, {six}}
		}
		if u := stepped(t, m, usualGrads(), usualParams()); !same(u, want) {
			t.Errorf("step %d: %08x, want %08x", step, u, want)
		}
	}
}

// TestEachParameter: VM2, over many parameters of unlike kinds and lengths, in loops and in none.
func TestEachParameter(t *testing.T) {
	g := &samples.Grower{Source: 9}
	var c api.Code
	for p := range 64 {
		c.Sign = append(c.Sign, api.Param{Name: "p" + string(rune('a'+p/8)) + string(rune('a'+p%8)), Kind: 1 + p%3%2, Len: 1 + p%5})
		c.Regs = append(c.Regs, vectorType(p))
		c.Slots = append(c.Slots, api.Slot{Type: vectorType(p), Keep: p%7 != 0})
		var list []api.Inst
		for part := range c.Sign[p].Kind {
			list = append(list, api.Inst{Op: 29 + p%2, D: p, N: part}, api.Inst{Op: 31, A: p, N: c.Sign[p].Kind - 1 - part}, api.Inst{Op: 33, A: p, N: p})
		}
		if p%4 > 0 {
			list = looped(list, 0)
			list[0].N = p
		}
		c.List = append(c.List, list...)
	}
	holdTwin(t, g, c, 5)
}
