package prune

import (
	"testing"

	"lathe/alike"
	"lathe/api"
	"lathe/samples"
)

// TestEveryEdge: PN2 and P12, every edge and every kind of NaN as gradient and as parameter, with each other, step after step, by way of
// slots and blocks that stay beside others that go: what is told stays the same, bit for bit.
func TestEveryEdge(t *testing.T) {
	edges := append(samples.Edges(), samples.NaNs()...)
	v, number, whole := api.Type{Kind: 3}, api.Type{Kind: 1}, api.Type{Kind: 2}
	c := api.Code{Sign: []api.Param{{Name: "w", Kind: 1, Len: len(edges)}}, Regs: []api.Type{v, v, v, v, v, number, number, whole, v}}
	c.Slots = []api.Slot{{Type: v, Keep: true, Bits: 0x7fc00000}, {Type: number, Keep: true}, {Type: v, Keep: true, Bits: 0x80000000}, {Type: v, Bits: 0xff800000}}
	ahead := "Grad D0; Param D1; Load D8 N0; Add D8 A8 B1; Store A8 N0; Load D2 N2;"
	behind := "; Store A3 N2; Store A3 N3; Load D4 N3; Sum D5 A8; Load D6 N1; Add D6 A5 B6; Store A6 N1; Least D5 A3; Test D7 A5; When A7; Out A4; Neg D8 A8; End; Out A3"
	for _, text := range []string{
		"Copy D3 A0", "Neg D3 A0", "Abs D3 A2", "Sqrt D3 A1", "Finite D3 A0", "Add D3 A0 B2", "Sub D3 A2 B1", "Mul D3 A1 B0", "Div D3 A0 B1", "Min D3 A2 B0", "Max D3 A0 B1", "Less D3 A1 B2", "Select D3 A2 B1 C0",
	} {
		c.List = read(ahead + text + behind)
		d := holdForm(t, c)
		if len(d.List) >= len(c.List) || samples.Counts(d)[34] != 1 {
			t.Errorf("%s became %s", samples.Show(c), samples.Show(d))
		}
		p, wrong := alike.New(c, d, leftSlots(c, neededByWords(c)))
		for turn := range edges {
			if wrong != "" {
				t.Fatal(wrong)
			}
			turned := append(append([]api.F{}, edges[turn:]...), edges[:turn]...)
			wrong = p.Step([][]api.F{edges}, [][]api.F{turned})
		}
	}
}
