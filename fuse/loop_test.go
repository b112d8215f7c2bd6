package fuse

import (
	"slices"
	"testing"

	"lathe/samples"
)

// TestLoopsStay: FU2 and FU3, loops that stand in the code already, as they should be.
func TestLoopsStay(t *testing.T) {
	for _, text := range []string{
		"Loop; Grad D8; Next",
		"Loop; Grad D8; Neg D9 A8; Out A9; Next",
		"Loop; Grad D8; Out A8; Next; Loop N1; Grad D12; Out A12 N1; Next; Loop N2; Grad D16; Out A16; Next",
		"Loop; Grad D8; Next; Sum D0 A8; Loop; Mul D9 A8 B0; Out A9; Next",
		"Loop; Grad D8; Next; Sum D0 A8; Loop N2; Grad D16; Next; Sum D1 A16; Loop; Mul D9 A8 B1; Out A9; Next; Loop N2; Mul D17 A16 B0; Out A17; Next",
		"Load D4 N1; Loop; Grad D8; Next; When A4; Loop; Neg D8 A8; Next; End; Loop; Out A8; Next",
		"Load D4 N1; When A4; Loop; Grad D8; Out A8; Next; Loop N1; Param D12; Out A12; Next; End",
	} {
		holdStays(t, text)
	}
}

// TestEmptyLoops: FU3, loops without anything go: there are no more loops than instructions that may be looped.
func TestEmptyLoops(t *testing.T) {
	for _, x := range [][2]string{
		{"Loop; Next", ""},
		{"Loop; Next; Loop; Next; Loop N1; Next; Loop N2; Next", ""},
		{"Number D0; Loop; Next; Store A0; Loop N1; Next", "Number D0; Store A0"},
		{"Load D4 N1; When A4; Loop; Next; End; Loop N2; Next", "Load D4 N1; When A4; End"},
		{"Loop; Next; Grad D8; Loop; Next; Out A8; Loop; Next", "Loop; Grad D8; Out A8; Next"},
		{"Loop; Next; Loop; Grad D8; Next; Loop; Next; Loop; Out A8; Next; Loop; Next", "Loop; Grad D8; Out A8; Next"},
		{"Loop; Grad D8; Next; Loop N1; Next; Loop; Out A8; Next", "Loop; Grad D8; Out A8; Next"},
		{"Loop N1; Next; Loop; Grad D8; Out A8; Next; Loop N2; Next", "Loop; Grad D8; Out A8; Next"},
		{"Grad D8; Loop N1; Next; Sum D0 A8; Loop; Next; Out A8", "Loop; Grad D8; Next; Sum D0 A8; Loop; Out A8; Next"},
		{"Load D4 N1; Grad D8; When A4; Loop; Next; Out A8; Loop; Next; End; Loop; Next", "Load D4 N1; Loop; Grad D8; Next; When A4; Loop; Out A8; Next; End"},
	} {
		holdList(t, x[0], x[1])
	}
}

// TestNeighbours: FU3, loops that are neighbours become one; some of other parameters between them are no hindrance.
func TestNeighbours(t *testing.T) {
	for _, x := range [][2]string{
		{"Loop; Grad D8; Next; Loop; Out A8; Next", "Loop; Grad D8; Out A8; Next"},
		{"Loop; Grad D8; Next; Loop; Neg D9 A8; Next; Loop; Abs D10 A9; Next; Loop; Out A10; Next", "Loop; Grad D8; Neg D9 A8; Abs D10 A9; Out A10; Next"},
		{"Loop; Grad D8; Next; Loop N1; Grad D12; Next; Loop; Out A8; Next", "Loop; Grad D8; Out A8; Next; Loop N1; Grad D12; Next"},
		{"Loop N2; Grad D16; Next; Loop N1; Grad D12; Next; Loop; Grad D8; Next; Loop N1; Out A12; Next; Loop N2; Out A16; Next; Loop; Out A8; Next",
			"Loop; Grad D8; Out A8; Next; Loop N1; Grad D12; Out A12; Next; Loop N2; Grad D16; Out A16; Next"},
		{"Loop; Grad D8; Next; Loop N2; Grad D16; Next; Sum D0 A16; Loop N2; Out A16; Next; Loop; Mul D9 A8 B0; Out A9; Next", "Loop N2; Grad D16; Next; Sum D0 A16; Loop; Grad D8; Mul D9 A8 B0; Out A9; Next; Loop N2; Out A16; Next"},
		{"Loop; Grad D8; Next; Number D0; Loop; Mul D9 A8 B0; Next; Load D1; Loop; Out A9; Next", "Number D0; Load D1; Loop; Grad D8; Mul D9 A8 B0; Out A9; Next"},
		{"Loop; Grad D8; Next; Sum D0 A8; Loop; Param D9; Next; Loop; Out A8; Next; Loop; Out A9; Next", "Loop; Grad D8; Next; Sum D0 A8; Loop; Param D9; Out A8; Out A9; Next"},
		{"Load D4 N1; When A4; Loop; Grad D8; Next; Loop; Out A8; Next; End; Loop; Param D8; Next; Loop; Out A8; Next", "Load D4 N1; When A4; Loop; Grad D8; Out A8; Next; End; Loop; Param D8; Out A8; Next"},
	} {
		holdList(t, x[0], x[1])
	}
}

// TestLooseBesideLoops: FU3, what is loose goes with the loops ahead of it and behind it.
func TestLooseBesideLoops(t *testing.T) {
	for _, x := range [][2]string{
		{"Grad D8; Loop; Out A8; Next", "Loop; Grad D8; Out A8; Next"},
		{"Loop; Grad D8; Next; Out A8", "Loop; Grad D8; Out A8; Next"},
		{"Param D9; Loop; Grad D8; Next; Add D10 A8 B9; Loop; Out A10; Next; Store A10 N2", "Loop; Param D9; Grad D8; Add D10 A8 B9; Out A10; Store A10 N2; Next"},
		{"Grad D12; Loop; Grad D8; Next; Neg D13 A12; Loop; Out A8; Next; Out A13", "Loop; Grad D8; Out A8; Next; Loop N1; Grad D12; Neg D13 A12; Out A13; Next"},
		{"Grad D8; Loop N2; Grad D16; Next; Out A8; Loop N2; Out A16; Next", "Loop; Grad D8; Out A8; Next; Loop N2; Grad D16; Out A16; Next"},
		{"Loop; Grad D8; Next; Param D9; Sum D0 A8; Loop; Out A9; Next; Copy D10 A0; Store A10 N7", "Loop; Grad D8; Param D9; Next; Sum D0 A8; Loop; Out A9; Copy D10 A0; Store A10 N7; Next"},
	} {
		holdList(t, x[0], x[1])
	}
}

// TestAnyLoops: FU1 to FU3, whichever loops stand in a code, the same code comes of it as without them: the program's own choice.
func TestAnyLoops(t *testing.T) {
	g := &samples.Grower{Source: 12}
	empty, neighbours, loose := 0, 0, 0
	for i := range 3000 {
		c := g.Code(40)
		if i%2 == 0 {
			c = g.SingleCode(40)
		}
		plain := samples.CloneCode(c)
		plain.List = samples.Bare(c)
		want := holdForm(t, plain)
		for range 3 {
			l := g.Looped(c)
			if d := hold(t, g, l); !slices.Equal(d.List, want.List) {
				t.Fatalf("%s became %s, want %s", samples.Show(l), samples.Show(d), samples.Show(want))
			}
			empty += samples.Counts(l)[36] - samples.Counts(want)[36]
			neighbours += min(samples.NeighboursAt(l), 0) + 1
			loose += min(samples.LooseAt(l), 0) + 1
		}
	}
	if empty < 1000 || neighbours < 1000 || loose < 1000 {
		t.Errorf("not enough was seen: %d loops more, %d codes with neighbours, %d with something loose", empty, neighbours, loose)
	}
}
