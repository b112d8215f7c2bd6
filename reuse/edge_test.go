package reuse

import (
	"testing"

	"lathe/alike"
	"lathe/api"
	"lathe/interp"
	"lathe/samples"
)

// TestEveryEdge: RE2 and P12, every edge and every kind of NaN as gradient and as parameter, with each other, by way of twins and copies
// that go: the signs of noughts stay, and no NaN but the one is told.
func TestEveryEdge(t *testing.T) {
	edges := append(samples.Edges(), samples.NaNs()...)
	v := api.Type{Kind: 3}
	c := api.Code{Sign: []api.Param{{Name: "w", Kind: 1, Len: len(edges)}}, Slots: []api.Slot{{Type: v, Keep: true}, {Type: v}, {Type: api.Type{Kind: 1}, Keep: true}}}
	for register := range 20 {
		c.Regs = append(c.Regs, api.Type{Kind: 3 - register/16*2})
	}
	ahead := "Grad D0; Grad D1; Copy D2 A1; Param D3; Copy D4 A3; Param D5;"
	behind := "; Copy D8 A7; Out A8; Store A6 N0; Copy D9 A8; Store A9 N1; Sum D16 A6; Sum D17 A8; Copy D18 A17; Less D19 A16 B18; Store A19 N2"
	for _, text := range []string{
		"Copy D6 A0; Copy D7 A2", "Neg D6 A0; Neg D7 A2", "Abs D6 A0; Abs D7 A1", "Sqrt D6 A2; Sqrt D7 A1", "Finite D6 A2; Finite D7 A0", "Add D6 A0 B3; Add D7 A1 B4", "Sub D6 A2 B3; Sub D7 A1 B5",
		"Sub D6 A0 B1; Sub D7 A2 B2", "Mul D6 A2 B5; Mul D7 A0 B4", "Div D6 A0 B3; Div D7 A2 B4", "Div D6 A1 B0; Div D7 A0 B2", "Min D6 A0 B4; Min D7 A2 B3", "Max D6 A1 B5; Max D7 A2 B4",
		"Less D6 A0 B3; Less D7 A1 B5", "Select D6 A0 B3 C1; Select D7 A2 B5 C0", "Add D6 A0 B1; Add D7 A1 B2",
	} {
		c.List = read(ahead + text + behind)
		d := holdForm(t, c)
		if count := samples.Counts(d); count[3] > 0 || len(d.List) > 11 {
			t.Errorf("%s became %s", text, listed(d.List))
		}
		p, wrong := alike.New(c, d, alike.Every(c))
		for turn := range edges {
			if wrong != "" {
				t.Fatal(wrong)
			}
			turned := append(append([]api.F{}, edges[turn:]...), edges[:turn]...)
			wrong = p.Step([][]api.F{edges}, [][]api.F{turned})
		}
	}
}

// TestHandedOn: RE2 and rule 5, what a copy made of each edge is what comes without it.
func TestHandedOn(t *testing.T) {
	for _, a := range append(samples.Edges(), samples.NaNs()...) {
		c := api.Code{Sign: []api.Param{{Name: "w", Kind: 1, Len: 1}}, Regs: []api.Type{{Kind: 3}, {Kind: 3}, {Kind: 3}}, List: read("Grad D0; Copy D1 A0; Copy D2 A1; Out A2")}
		d := holdForm(t, c)
		want := a
		if samples.IsNaN(a) {
			want = nan
		}
		if got := updateOf(t, d, a); got != want || updateOf(t, c, a) != want || len(d.List) != 2 {
			t.Errorf("%08x: %08x, %s", a, got, samples.Show(d))
		}
	}
}

// updateOf is what code over one number makes of it.
func updateOf(t *testing.T, c api.Code, a api.F) api.F {
	t.Helper()
	run, e := interp.New(c)
	if e != api.OK {
		t.Fatalf("interp.New = %d", e)
	}
	u, _ := run.Step([][]api.F{{a}}, [][]api.F{{0}})
	return u[0][0]
}
