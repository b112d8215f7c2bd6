package prune

import (
	"slices"
	"strings"
	"testing"

	"lathe/api"
	"lathe/ir"
	"lathe/samples"
)

// A row is an instruction by the kinds of its D, A, B, C: n, w, v.
type row struct{ name, kinds string }

// rows are all instructions that set a register and read some, each in all its ways.
func rows() []row {
	var list []row
	put := func(names string, ways ...string) {
		for _, name := range strings.Fields(names) {
			for _, way := range ways {
				list = append(list, row{name, way})
			}
		}
	}
	put("Copy", "nn", "ww", "vv", "vn")
	put("Add Sub Mul Div Min Max Less", "nnn", "vvv", "vnv", "vvn", "vnn")
	put("Sqrt Neg Abs Finite", "nn", "vv", "vn")
	put("Select", "nnnn", "vvvv", "vnvv", "vvnv", "vvvn", "vnnn")
	put("Power", "nnw")
	put("From", "nw")
	put("Test", "wn")
	put("Sum Least", "nv")
	put("Inc Not", "ww")
	put("Less2 Same And Minus Over", "www")
	put("Choose", "wwww")
	return list
}

// first is the first of the four registers of a kind.
func first(kind byte) int { return 4 * strings.IndexByte("nwv", kind) }

// TestEachInstruction: PN1, what is needed by way of each instruction, by each of A, B and C, whichever registers these are; and nothing
// else is.
func TestEachInstruction(t *testing.T) {
	sources := read("Number D0 =3f800000; Load D1; Number D2 =80000000; Whole D4 N3; Load D5 N1; Whole D6; Grad D8; Load D9 N2; Param D10")
	seen := map[int]bool{}
	for _, r := range rows() {
		i := read(r.name)[0]
		seen[i.Op] = true
		reads := r.kinds[1:]
		if len(ir.Reads(i)) != len(reads) {
			t.Fatalf("%s reads %d", r.name, len(ir.Reads(i)))
		}
		i.D = first(r.kinds[0]) + 3
		for choice := range 27 {
			var wanted []int
			for field, rest := 0, choice; field < len(reads); field, rest = field+1, rest/3 {
				register := first(reads[field]) + rest%3
				*samples.Field(&i, "ABC"[field]) = register
				wanted = append(wanted, register)
			}
			tail := map[byte]string{'n': "Copy D11 A3; Out A11", 'w': "From D3 A7; Copy D11 A3; Out A11", 'v': "Out A11"}[r.kinds[0]]
			holdSources(t, sources, append([]api.Inst{i}, read(tail)...), wanted)
		}
	}
	for op := range 38 {
		i := api.Inst{Op: op}
		if reads := ir.Sets(i) && len(ir.Reads(i)) > 0; reads != seen[op] {
			t.Errorf("Op %d: %t", op, seen[op])
		}
	}
}

// holdSources: of instructions that set a register each, and others behind them that are needed, these are left, and the sources of the
// registers that are wanted.
func holdSources(t *testing.T, sources, behind []api.Inst, wanted []int) {
	t.Helper()
	c := usual("")
	c.List = slices.Concat(sources, behind)
	var left []api.Inst
	for _, i := range sources {
		if slices.Contains(wanted, i.D) {
			left = append(left, i)
		}
	}
	left = append(left, behind...)
	d := holdForm(t, c)
	if want := numberedByWords(c, left); !ir.Equal(d, want) {
		t.Errorf("%s became %s, want %s", samples.Show(c), samples.Show(d), samples.Show(want))
	}
}

// TestWithoutD: PN1, what is needed by way of instructions that set nothing: OpOut, OpStore, OpWhen.
func TestWithoutD(t *testing.T) {
	holdLeft(t, "Grad D8; Param D9; Out A9", "Param D9; Out A9")
	holdLeft(t, "Grad D12 N1; Param D13 N1; Out A12 N1", "Grad D12 N1; Out A12 N1")
	holdLeft(t, "Grad D8; Param D9; Store A9 N2; Load D10 N2; Out A10", "Param D9; Store A9 N2; Load D10 N2; Out A10")
	holdLeft(t, "Load D4 N1; Whole D5 N1; When A5; Grad D8; Out A8; End", "Whole D5 N1; When A5; Grad D8; Out A8; End")
	holdLeft(t, "Load D4 N1; Not D5 A4; Inc D6 A4; When A5; Grad D8; Out A8; End", "Load D4 N1; Not D5 A4; When A5; Grad D8; Out A8; End")
}

// TestNothingByNought: PN1, a register of the number 0, or a slot, is not needed because a field that means something else, or nothing, is 0.
func TestNothingByNought(t *testing.T) {
	c := api.Code{Sign: []api.Param{{Name: "w", Kind: 1, Len: 2}, {Name: "z", Kind: 2, Len: 1}}, Regs: []api.Type{{Kind: 3}, {Kind: 3}, {Kind: 3, Param: 1}, {Kind: 3}}}
	c.Slots = []api.Slot{{Type: api.Type{Kind: 3}, Keep: true}, {Type: api.Type{Kind: 3, Param: 1}, Keep: true, Bits: 0x3f800000}}
	c.List = read("Grad D0; Store A0 N0; Grad D1; Load D0 N0; Loop; Neg D3 A1; Out A3; Next; Load D2 N1; Out A2 N1; Store A2 N1")
	want := api.Code{Sign: c.Sign, Regs: []api.Type{{Kind: 3}, {Kind: 3, Param: 1}, {Kind: 3}}, Slots: c.Slots[1:]}
	want.List = read("Grad D0; Loop; Neg D2 A0; Out A2; Next; Load D1 N0; Out A1 N1; Store A1 N0")
	if d := hold(t, &samples.Grower{Source: 9}, c); !ir.Equal(d, want) {
		t.Errorf("%s", samples.Show(d))
	}
}

// TestChains: PN1, what is needed by way of what is needed, however far.
func TestChains(t *testing.T) {
	holdLeft(t, "Grad D8; Neg D9 A8; Abs D10 A9; Sqrt D11 A10; Out A10", "Grad D8; Neg D9 A8; Abs D10 A9; Out A10")
	holdStays(t, "Load D4 N1; Inc D5 A4; From D0 A5; Test D6 A0; Choose D7 A6 B5 C4; From D1 A7; Grad D8; Sum D2 A8; Div D3 A1 B2; Select D9 A3 B8 C0; Out A9; Store A7 N1")
	holdLeft(t, "Grad D8; Sum D0 A8; Least D1 A8; Copy D9 A1; Neg D2 A0; Copy D10 A2; Out A9", "Grad D8; Least D1 A8; Copy D9 A1; Out A9")
	holdLeft(t, "Grad D12; Grad D13 N1; Mul D14 A12 B12; Mul D15 A13 B13; Out A14; Out A13 N1", "Grad D12; Grad D13 N1; Mul D14 A12 B12; Out A14; Out A13 N1")
}
