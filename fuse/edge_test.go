package fuse

import (
	"testing"

	"lathe/alike"
	"lathe/api"
	"lathe/samples"
)

// TestEveryEdge: FU2 and P12, every edge and every kind of NaN as gradient and as parameter, with each other, step after step, by way of
// slots, blocks and numbers that loops are cut by: what is told stays the same, bit for bit.
func TestEveryEdge(t *testing.T) {
	edges := append(samples.Edges(), samples.NaNs()...)
	v, number, whole := api.Type{Kind: 3}, api.Type{Kind: 1}, api.Type{Kind: 2}
	c := api.Code{Sign: []api.Param{{Name: "w", Kind: 1, Len: len(edges)}}, Regs: []api.Type{v, v, v, v, v, number, number, whole}}
	c.Slots = []api.Slot{{Type: v, Keep: true, Bits: 0x7fc00000}, {Type: number, Keep: true, Bits: 0x80000000}, {Type: v, Bits: 0xff800000}}
	ahead := "Grad D0; Load D5 N1; Param D1; Number D6 =80000000; Load D2 N0; Add D1 A1 B6;"
	behind := "; Store A3 N0; Least D5 A3; Store A3 N2; Test D7 A5; Load D4 N2; Store A5 N1; When A7; Out A4; Number D6; Mul D2 A2 B6; Store A2 N2; End; Max D4 A4 B5; Sum D6 A4; Copy D4 A6; Store A4 N2; Out A3"
	for _, text := range []string{
		"Copy D3 A0", "Neg D3 A0", "Abs D3 A2", "Sqrt D3 A1", "Finite D3 A0", "Add D3 A0 B2", "Sub D3 A2 B1", "Mul D3 A1 B0", "Div D3 A0 B1", "Min D3 A2 B0", "Max D3 A0 B1", "Less D3 A1 B2", "Select D3 A2 B1 C0",
		"Copy D3 A5", "Add D3 A5 B0", "Mul D3 A1 B6", "Div D3 A5 B2", "Min D3 A0 B6", "Max D3 A5 B1", "Less D3 A0 B5", "Select D3 A0 B5 C6", "Select D3 A5 B0 C1",
	} {
		c.List = read(ahead + text + behind)
		d := holdForm(t, c)
		if loops := samples.Counts(d)[36]; loops != 5 {
			t.Errorf("%d loops: %s", loops, samples.Show(d))
		}
		p, wrong := alike.New(c, d, alike.Every(c))
		for turn := range edges {
			if wrong != "" {
				t.Fatal(wrong)
			}
			turned := append(append([]api.F{}, edges[turn:]...), edges[:turn]...)
			wrong = p.Step([][]api.F{edges}, [][]api.F{turned})
		}
	}
}

// TestEachPart: FU2, every edge as either part of complex gradients and parameters, whichever parts are handed out.
func TestEachPart(t *testing.T) {
	edges := append(samples.Edges(), samples.NaNs()...)
	for _, text := range []string{
		"Grad D12; Grad D13 N1; Out A12; Out A13 N1", "Grad D12; Param D13; Out A12 N1; Number D0 =80000000; Mul D14 A13 B0; Out A14", "Param D12 N1; Neg D12 A12; Out A12; Grad D12; Sum D0 A12; Copy D13 A0; Out A13 N1", "Param D12; Out A12; Out A12 N1",
	} {
		c := usual(text)
		d := holdForm(t, c)
		p, wrong := alike.New(c, d, alike.Every(c))
		for at, a := range edges {
			for turn, b := range edges {
				if wrong != "" {
					t.Fatal(wrong)
				}
				z := []api.F{a, b, edges[(at+turn)%len(edges)], edges[(at+3*turn)%len(edges)]}
				wrong = p.Step([][]api.F{{0, 0, 0}, z, {0}}, [][]api.F{{0, 0, 0}, {z[3], z[2], a, b}, {0}})
			}
		}
	}
}
