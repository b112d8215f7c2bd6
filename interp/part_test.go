package interp

import (
	"testing"

	"lathe/api"
	"lathe/samples"
)

// TestParts: IN2, OpGrad and OpParam are the part of D's parameter; a complex one's part 0 is its real parts, 1 the imaginary ones.
func TestParts(t *testing.T) {
	w, z, u := []api.F{0, 0, 0}, []api.F{0, 0, 0, 0}, []api.F{0}
	holdUpdates(t, "Grad D8; Out A8", []api.F{one, two, three}, z, u)
	holdUpdates(t, "Param D8; Out A8", []api.F{0xbf800000, inf, 0}, z, u)
	holdUpdates(t, "Grad D12; Out A12", w, []api.F{four, 0, five, 0}, u)
	holdUpdates(t, "Grad D12 N1; Out A12", w, []api.F{half, 0, minus, 0}, u)
	holdUpdates(t, "Grad D12 N1; Out A12 N1", w, []api.F{0, half, 0, minus}, u)
	holdUpdates(t, "Grad D12; Out A12 N1", w, []api.F{0, four, 0, five}, u)
	holdUpdates(t, "Grad D12; Grad D13 N1; Out A12; Out A13 N1", w, []api.F{four, half, five, minus}, u)
	holdUpdates(t, "Grad D12; Grad D13 N1; Out A12 N1; Out A13", w, []api.F{half, four, minus, five}, u)
	holdUpdates(t, "Param D12; Param D13 N1; Out A12 N1; Out A13", w, []api.F{2, 1, 4, 3}, u)
	holdUpdates(t, "Grad D12; Param D13 N1; Out A12; Out A13 N1", w, []api.F{four, 2, five, 4}, u)
	holdUpdates(t, "Grad D16; Out A16", w, z, []api.F{six})
	holdUpdates(t, "Param D17; Out A17", w, z, []api.F{0x41200000})
	holdUpdates(t, "Grad D17; Param D8; Out A8; Grad D15 N1; Out A15; Out A17", []api.F{0xbf800000, inf, 0}, []api.F{half, 0, minus, 0}, []api.F{six})
}

// TestCanonical: IN2, each NaN comes in as the one, all other patterns as they are.
func TestCanonical(t *testing.T) {
	all := patterns()
	n := len(all)
	c := api.Code{Sign: []api.Param{{Name: "w", Kind: 1, Len: n}, {Name: "z", Kind: 2, Len: n}}, Regs: []api.Type{vectorType(0), vectorType(1), vectorType(1)}}
	c.Slots = []api.Slot{{Type: vectorType(0)}, {Type: vectorType(1)}, {Type: vectorType(1)}}
	want := make([]api.F, n)
	turned := make([]api.F, n)
	for i, a := range all {
		want[i] = a
		if samples.IsNaN(a) {
			want[i] = nan
		}
		turned[n-1-i] = a
	}
	ends := "; Out A0; Out A1; Out A2 N1; Store A0; Store A1 N1; Store A2 N2"
	for place, text := range []string{"Grad D0; Grad D1; Grad D2 N1", "Param D0; Param D1; Param D2 N1", "Loop; Grad D0; Next; Loop N1; Grad D1; Grad D2 N1; Next", "Loop; Param D0; Next; Param D1; Loop N1; Param D2 N1; Next"} {
		c.List = read(text + ends)
		r := begin(t, c)
		vectors := [][][]api.F{{make([]api.F, n), make([]api.F, 2*n)}, {make([]api.F, n), make([]api.F, 2*n)}}
		vectors[place%2] = [][]api.F{all, inTurns(turned, all)}
		u := stepped(t, r, vectors[0], vectors[1])
		back := make([]api.F, n)
		for i, a := range want {
			back[n-1-i] = a
		}
		if !same(u, [][]api.F{want, inTurns(back, want)}) {
			t.Errorf("%s: %08x", text, u)
		}
		holdSlot(t, r, 0, want, 0)
		holdSlot(t, r, 1, back, 0)
		holdSlot(t, r, 2, want, 0)
	}
}

// TestOut: IN2, all updates are +0 at each step's beginning; what is put out last counts; a register that is set later changes nothing.
func TestOut(t *testing.T) {
	w, z, u := []api.F{one, two, three}, []api.F{0, 0, 0, 0}, []api.F{0}
	holdUpdates(t, "Grad D8; Out A8; Neg D8 A8", w, z, u)
	holdUpdates(t, "Grad D8; Neg D9 A8; Out A9; Out A8", w, z, u)
	holdUpdates(t, "Grad D8; Neg D9 A8; Out A8; Out A8; Copy D8 A9", w, z, u)
	holdUpdates(t, "Grad D12; Neg D13 A12; Out A13 N1; Out A12; Out A12 N1", []api.F{0, 0, 0}, []api.F{four, four, five, five}, u)
	holdUpdates(t, "Grad D12; Grad D13 N1; Out A12; Out A13", []api.F{0, 0, 0}, []api.F{half, 0, minus, 0}, u)
	holdUpdates(t, "Grad D8; Grad D12; Grad D16", []api.F{0, 0, 0}, z, u)
}

// TestOutAnew: IN2, what was put out in one step is not there in the next one.
func TestOutAnew(t *testing.T) {
	r := begin(t, usual("Load D4 N1; Not D5 A4; Store A5 N1; When A5; Grad D8; Out A8; Grad D12 N1; Out A12 N1; End; When A4; Grad D16; Out A16; End"))
	for step := range 6 {
		want := [][]api.F{{one, two, three}, {0, half, 0, minus}, {0}}
		if step%2 == 1 {
			want = [][]api.F{{0, 0, 0}, {0, 0, 0, 0}, {six}}
		}
		if u := stepped(t, r, usualGrads(), usualParams()); !same(u, want) {
			t.Errorf("step %d: %08x, want %08x", step, u, want)
		}
	}
}

// TestEachParameter: IN2, over many parameters of unlike kinds and lengths, two of one length among them.
func TestEachParameter(t *testing.T) {
	g := &samples.Grower{Source: 3}
	var c api.Code
	for p := range 64 {
		c.Sign = append(c.Sign, api.Param{Name: "p" + string(rune('0'+p)), Kind: 1, Len: 1 + p%5})
		if p >= 10 {
			c.Sign[p].Name = "q" + string(rune('0'+p/10)) + string(rune('0'+p%10))
		}
		if p%3 == 1 {
			c.Sign[p].Kind = 2
		}
		c.Regs = append(c.Regs, vectorType(p))
	}
	var text []api.Inst
	for p := range 64 {
		for part := range c.Sign[p].Kind {
			text = append(text, api.Inst{Op: 29 + p%2, D: p, N: part}, api.Inst{Op: 31, A: p, N: c.Sign[p].Kind - 1 - part})
		}
	}
	c.List = text
	r := begin(t, c)
	for range 3 {
		grads, params := g.Vectors(c.Sign), g.Vectors(c.Sign)
		u := stepped(t, r, grads, params)
		for p, param := range c.Sign {
			from := grads[p]
			if p%2 == 1 {
				from = params[p]
			}
			for element := range param.Len {
				for part := range param.Kind {
					want := wantElement(3, from[element*param.Kind+part], 0, 0)
					if got := u[p][element*param.Kind+param.Kind-1-part]; got != want {
						t.Errorf("parameter %d, element %d, part %d: %08x, want %08x", p, element, part, got, want)
					}
				}
			}
		}
	}
}
