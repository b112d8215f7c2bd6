package fuse

import (
	"slices"
	"strings"
	"testing"

	"lathe/api"
	"lathe/samples"
)

// TestBlocks: FU2 and FU3, what may be looped ahead of a block of OpWhen, in it and behind it: each has a loop of its own, as the block may
// be left out.
func TestBlocks(t *testing.T) {
	for _, x := range [][2]string{
		{"Load D4 N1; When A4; Grad D8; Out A8; End", "Load D4 N1; When A4; Loop; Grad D8; Out A8; Next; End"},
		{"Load D4 N1; Grad D8; When A4; Out A8; End", "Load D4 N1; Loop; Grad D8; Next; When A4; Loop; Out A8; Next; End"},
		{"Grad D8; Load D4 N1; When A4; Neg D8 A8; End; Out A8", "Load D4 N1; Loop; Grad D8; Next; When A4; Loop; Neg D8 A8; Next; End; Loop; Out A8; Next"},
		{"Load D4 N1; Grad D8; When A4; Grad D16; Out A16; End; Grad D12; Out A8; Out A12", "Load D4 N1; Loop; Grad D8; Next; When A4; Loop N2; Grad D16; Out A16; Next; End; Loop; Out A8; Next; Loop N1; Grad D12; Out A12; Next"},
		{"Load D4 N1; Grad D8; When A4; End; Out A8", "Load D4 N1; Loop; Grad D8; Next; When A4; End; Loop; Out A8; Next"},
		{"Load D4 N1; When A4; Grad D8; Out A8; End; When A4; Param D8; Out A8; End", "Load D4 N1; When A4; Loop; Grad D8; Out A8; Next; End; When A4; Loop; Param D8; Out A8; Next; End"},
		{"Load D4 N1; When A4; Grad D8; Store A8 N7; End; Load D9 N7; Out A9", "Load D4 N1; When A4; Loop; Grad D8; Store A8 N7; Next; End; Loop; Load D9 N7; Out A9; Next"},
		{"Load D4 N1; Grad D8; Number D0; When A4; Number D1; Mul D9 A8 B1; Out A9; Number D2; End; Number D3; Mul D9 A8 B3; Out A9",
			"Load D4 N1; Number D0; Loop; Grad D8; Next; When A4; Number D1; Number D2; Loop; Mul D9 A8 B1; Out A9; Next; End; Number D3; Loop; Mul D9 A8 B3; Out A9; Next"},
		{"Load D4 N1; Grad D8; Sum D0 A8; Test D5 A0; When A5; Param D9; Out A9; End", "Load D4 N1; Loop; Grad D8; Next; Sum D0 A8; Test D5 A0; When A5; Loop; Param D9; Out A9; Next; End"},
	} {
		holdList(t, x[0], x[1])
	}
}

// TestBlocksInBlocks: FU2 and FU3, blocks in one another, with loose instructions ahead of them, in them and behind them.
func TestBlocksInBlocks(t *testing.T) {
	for _, x := range [][2]string{
		{"Load D4 N1; Load D5 N6; When A4; When A5; Grad D8; Out A8; End; End", "Load D4 N1; Load D5 N6; When A4; When A5; Loop; Grad D8; Out A8; Next; End; End"},
		{"Load D4 N1; Load D5 N6; Grad D8; When A4; Neg D8 A8; When A5; Abs D8 A8; End; Sqrt D8 A8; End; Out A8",
			"Load D4 N1; Load D5 N6; Loop; Grad D8; Next; When A4; Loop; Neg D8 A8; Next; When A5; Loop; Abs D8 A8; Next; End; Loop; Sqrt D8 A8; Next; End; Loop; Out A8; Next"},
		{"Load D4 N1; Grad D8; When A4; When A4; End; Out A8; When A4; Grad D12; End; Grad D13; Out A13; End; Out A8",
			"Load D4 N1; Loop; Grad D8; Next; When A4; When A4; End; Loop; Out A8; Next; When A4; Loop N1; Grad D12; Next; End; Loop N1; Grad D13; Out A13; Next; End; Loop; Out A8; Next"},
		{"Load D4 N1; When A4; Loop; Grad D8; Next; When A4; Loop; Neg D9 A8; Next; Out A9; End; Loop; Out A8; Next; End",
			"Load D4 N1; When A4; Loop; Grad D8; Next; When A4; Loop; Neg D9 A8; Out A9; Next; End; Loop; Out A8; Next; End"},
	} {
		holdList(t, x[0], x[1])
	}
}

// TestSetAcross: FU2, what is set ahead of a block, in it and behind it is read as before, whether the block is done or not.
func TestSetAcross(t *testing.T) {
	for _, text := range []string{
		"Load D4 N1; Number D0 =3f800000; Copy D8 A0; When A4; Number D0 =40000000; Copy D9 A0; Out A9; End; Add D8 A8 B0; Out A8",
		"Load D4 N1; Number D0 =3f800000; When A4; Copy D8 A0; Number D0 =40000000; Out A8; End; Copy D9 A0; Number D0 =40400000; Add D9 A9 B0; Store A9 N2",
		"Load D4 N1; Grad D8; When A4; Param D8; Sum D0 A8; Store A0; End; Least D1 A8; Store A1 N5; Out A8",
		"Load D4 N1; Load D8 N2; When A4; Grad D9; Store A9 N2; End; Load D9 N2; Add D8 A8 B9; Out A8",
		"Load D4 N1; Grad D8; Store A8 N7; When A4; Param D8; Store A8 N7; Load D9 N2; Store A8 N2; End; Load D10 N7; Out A10; Load D11 N2; Store A11 N7",
		"Load D4 N1; Param D12; Out A12; When A4; Grad D12 N1; Out A12; Out A12 N1; End; Neg D13 A12; When A4; Out A13 N1; End",
	} {
		holdUsual(t, usual(text))
	}
}

// TestManyShapes: FU1 to FU3, blocks in all shapes of up to four marks, with loose instructions in each place between them or not.
func TestManyShapes(t *testing.T) {
	pieces := []string{"", "Neg D8 A8; Number D0 =3f000000; Mul D9 A8 B0; Store A9 N2;", "Load D8 N2; Sum D1 A8; Abs D12 A12; Mul D8 A8 B1; Out A12 N1; Out A8;", "Store A1; Out A8; Loop N1; Neg D12 A12; Next; Load D1; Loop; Next;"}
	for _, shape := range []string{".", ".WE.", ".W.E.", ".W.E.W.E.", ".W.W.E.E."} {
		places := strings.Count(shape, ".")
		for choice := range 1 << (2 * places) {
			text, rest := "Load D4 N1; Grad D8; Grad D12; Number D1 =3f800000;", choice
			for _, mark := range shape {
				switch mark {
				case 'W':
					text += "When A4;"
				case 'E':
					text += "End;"
				default:
					text += pieces[rest%4]
					rest /= 4
				}
			}
			c := usual(text)
			c.Slots[1].Int = choice % 2
			hold(t, &samples.Grower{Source: samples.Source(choice)}, c)
		}
	}
}

// TestNoBlockMoves: FU2, blocks stay in their order, in one another as they were: the program's own choice.
func TestNoBlockMoves(t *testing.T) {
	g := &samples.Grower{Source: 13}
	for range 1000 {
		c := g.Code(60)
		if d := holdForm(t, c); !slices.Equal(marks(d), marks(c)) {
			t.Fatalf("%s became %s", samples.Show(c), samples.Show(d))
		}
	}
}

// marks are a code's marks of blocks of OpWhen.
func marks(c api.Code) []api.Inst {
	return slices.DeleteFunc(slices.Clone(c.List), func(i api.Inst) bool { return samples.Deeper(i) == 0 })
}
