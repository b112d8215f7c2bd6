package fuse

import (
	"slices"
	"strings"
	"testing"

	"lathe/api"
	"lathe/lower"
	"lathe/samples"
)

// TestWantsWhole: FU2 and FU3, what stands between two that may be looped and wants a vector whole that the first one makes: the loop ends
// there. Where it wants one that is there already, no loop has to end.
func TestWantsWhole(t *testing.T) {
	for _, x := range [][2]string{
		{"Grad D8; Sum D0 A8; Out A8", "Loop; Grad D8; Next; Sum D0 A8; Loop; Out A8; Next"},
		{"Grad D8; Sum D0 A8; Copy D9 A0; Out A9", "Loop; Grad D8; Next; Sum D0 A8; Loop; Copy D9 A0; Out A9; Next"},
		{"Grad D8; Neg D9 A8; Sum D0 A8; Out A9", "Loop; Grad D8; Neg D9 A8; Next; Sum D0 A8; Loop; Out A9; Next"},
		{"Grad D8; Neg D8 A8; Sum D0 A8; Neg D8 A8; Out A8", "Loop; Grad D8; Neg D8 A8; Next; Sum D0 A8; Loop; Neg D8 A8; Out A8; Next"},
		{"Grad D8; Param D9; Sum D0 A8; Sum D1 A9; Out A8", "Loop; Grad D8; Param D9; Next; Sum D0 A8; Sum D1 A9; Loop; Out A8; Next"},
		{"Grad D8; Sum D0 A8; Param D9; Sum D1 A9; Out A8", "Loop; Grad D8; Next; Sum D0 A8; Loop; Param D9; Next; Sum D1 A9; Loop; Out A8; Next"},
		{"Grad D8; Sum D0 A8; Param D9; Sum D1 A8; Out A9", "Loop; Grad D8; Next; Sum D0 A8; Sum D1 A8; Loop; Param D9; Out A9; Next"},
		{"Grad D12; Grad D13 N1; Sum D0 A13; Out A12", "Loop N1; Grad D12; Grad D13 N1; Next; Sum D0 A13; Loop N1; Out A12; Next"},
		{"Grad D8; Grad D16; Sum D0 A16; Out A8; Out A16", "Loop N2; Grad D16; Next; Sum D0 A16; Loop; Grad D8; Out A8; Next; Loop N2; Out A16; Next"},
		{"Grad D16; Grad D8; Sum D0 A8; Sum D1 A16; Out A16", "Loop; Grad D8; Next; Sum D0 A8; Loop N2; Grad D16; Next; Sum D1 A16; Loop N2; Out A16; Next"},
	} {
		for _, name := range []string{"Sum", "Least"} {
			holdList(t, strings.ReplaceAll(x[0], "Sum", name), strings.ReplaceAll(x[1], "Sum", name))
		}
	}
}

// TestWanted: FU2 and FU3, what stands between two that may be looped and is wanted by the second one: it goes ahead of the loop, unless it
// hangs on the first one.
func TestWanted(t *testing.T) {
	for _, x := range [][2]string{
		{"Grad D8; Number D0 =3f000000; Mul D9 A8 B0; Out A9", "Number D0 =3f000000; Loop; Grad D8; Mul D9 A8 B0; Out A9; Next"},
		{"Grad D8; Load D0; Copy D9 A0; Out A9; Out A8", "Load D0; Loop; Grad D8; Copy D9 A0; Out A9; Out A8; Next"},
		{"Grad D8; Load D4 N1; Inc D5 A4; Store A5 N1; From D0 A5; Sqrt D1 A0; Div D9 A8 B1; Out A9", "Load D4 N1; Inc D5 A4; Store A5 N1; From D0 A5; Sqrt D1 A0; Loop; Grad D8; Div D9 A8 B1; Out A9; Next"},
		{"Grad D8; Number D0; Add D9 A8 B0; Number D1 =3f800000; Select D10 A1 B8 C0; Load D2; Min D11 A2 B10; Out A11", "Number D0; Number D1 =3f800000; Load D2; Loop; Grad D8; Add D9 A8 B0; Select D10 A1 B8 C0; Min D11 A2 B10; Out A11; Next"},
		{"Grad D8; Sum D0 A8; Sqrt D1 A0; Div D9 A8 B1; Out A9", "Loop; Grad D8; Next; Sum D0 A8; Sqrt D1 A0; Loop; Div D9 A8 B1; Out A9; Next"},
		{"Grad D8; Grad D16; Sum D0 A16; Mul D9 A8 B0; Out A9", "Loop N2; Grad D16; Next; Sum D0 A16; Loop; Grad D8; Mul D9 A8 B0; Out A9; Next"},
		{"Grad D8; Least D0 A8; Grad D12; Mul D13 A12 B0; Out A13", "Loop; Grad D8; Next; Least D0 A8; Loop N1; Grad D12; Mul D13 A12 B0; Out A13; Next"},
		{"Grad D8; Mul D9 A8 B8; Sum D0 A9; Grad D12; Mul D13 A12 B12; Sum D1 A13; Add D2 A0 B1; Sqrt D3 A2; Div D10 A8 B3; Out A10; Div D14 A12 B3; Out A14",
			"Loop; Grad D8; Mul D9 A8 B8; Next; Sum D0 A9; Loop N1; Grad D12; Mul D13 A12 B12; Next; Sum D1 A13; Add D2 A0 B1; Sqrt D3 A2; Loop; Div D10 A8 B3; Out A10; Next; Loop N1; Div D14 A12 B3; Out A14; Next"},
	} {
		holdList(t, x[0], x[1])
	}
}

// TestBetweenNothing: FU2 and FU3, what stands between two that may be looped and has nothing to do with either cuts no loop; so do others
// of another parameter.
func TestBetweenNothing(t *testing.T) {
	holdList(t, "Grad D8; Load D4 N1; Inc D4 A4; Store A4 N1; Out A8", "Load D4 N1; Inc D4 A4; Store A4 N1; Loop; Grad D8; Out A8; Next")
	holdList(t, "Grad D8; Number D0; Store A0; Load D1; Out A8", "Number D0; Store A0; Load D1; Loop; Grad D8; Out A8; Next")
	holdList(t, "Grad D8; Grad D12; Grad D16; Out A8; Out A12; Out A16", "Loop; Grad D8; Out A8; Next; Loop N1; Grad D12; Out A12; Next; Loop N2; Grad D16; Out A16; Next")
	holdList(t, "Grad D16; Out A16; Grad D12; Out A12; Grad D8; Out A8", "Loop; Grad D8; Out A8; Next; Loop N1; Grad D12; Out A12; Next; Loop N2; Grad D16; Out A16; Next")
	holdList(t, "Grad D8; Grad D16; Number D0; Grad D12; Out A8; Load D4 N1; Out A16; Out A12 N1", "Number D0; Load D4 N1; Loop; Grad D8; Out A8; Next; Loop N1; Grad D12; Out A12 N1; Next; Loop N2; Grad D16; Out A16; Next")
}

// TestManyNumbers: FU2 and FU3, a loop that reads many numbers lets no more go ahead of it, as they all have to be held at once.
func TestManyNumbers(t *testing.T) {
	c := usual("Grad D8")
	for n := range 40 {
		number := len(c.Regs)
		c.Regs = append(c.Regs, api.Type{Kind: 1})
		c.List = append(c.List, api.Inst{Op: api.OpNumber, D: number, Bits: 0x3f800000 + api.F(n)}, api.Inst{Op: api.OpMul, D: 8, A: 8, B: number})
	}
	c.List = append(c.List, read("Out A8")...)
	d := holdUsual(t, c)
	if most := mostInLoop(d); most != 16 || samples.Counts(d)[36] != 3 {
		t.Errorf("a loop reads %d numbers: %s", most, listed(d.List))
	}
	first := samples.CloneCode(c)
	slices.SortStableFunc(first.List, func(i, j api.Inst) int { return min(i.Op, 2) - min(j.Op, 2) }) // where they are all there already, they cut nothing
	if d := holdUsual(t, first); mostInLoop(d) != 40 || samples.Counts(d)[36] != 1 {
		t.Errorf("%s", listed(d.List))
	}
}

// mostInLoop is how many numbers a loop of a code reads, at most.
func mostInLoop(c api.Code) int {
	most := 0
	read := map[int]bool{}
	for _, i := range c.List {
		if i.Op == 36 {
			clear(read)
		}
		if i.Op == 6 && c.Regs[i.B].Kind == 1 {
			read[i.B] = true
		}
		most = max(most, len(read))
	}
	return most
}

// TestTransforms: FU3, of transforms that reckon nothing over several elements each parameter has one loop, however many are chained; what
// wants norms has few.
func TestTransforms(t *testing.T) {
	sign := []api.Param{{Name: "w", Kind: 1, Len: 3}, {Name: "z", Kind: 1, Len: 1}, {Name: "u", Kind: 1, Len: 2}}
	bounded := func(op int, nums ...api.F) api.Tx { return api.Tx{Op: op, Nums: nums} }
	scale, clip := bounded(api.TxScale, 0x3f000000), bounded(api.TxClip, 0x3f800000)
	adam := bounded(api.TxAdam, 0x3f666666, 0x3f7fbe77, 0x322bcc77, 0)
	norm := bounded(api.TxGlobalNorm, 0x3f800000)
	for _, x := range []struct {
		kids  []api.Tx
		loops int // for each parameter
	}{
		{[]api.Tx{scale}, 1}, {[]api.Tx{adam}, 1}, {[]api.Tx{scale, clip, scale}, 1}, {[]api.Tx{adam, scale, bounded(api.TxDecay, 0x3f000000)}, 1}, {[]api.Tx{norm}, 2}, {[]api.Tx{norm, adam, scale}, 2}, {[]api.Tx{scale, norm, clip, norm}, 3},
	} {
		for params := 1; params <= len(sign); params++ {
			c, e := lower.Lower(api.Tx{Op: api.TxChain, Kids: x.kids}, sign[:params])
			if e != api.OK {
				t.Fatalf("Lower(%v) = %d", x.kids, e)
			}
			d := hold(t, &samples.Grower{Source: 3}, c)
			if loops := samples.Counts(d)[36]; loops != x.loops*params {
				t.Errorf("%d loops for %d parameters: %s", loops, params, listed(d.List))
			}
		}
	}
}
