package opt

import (
	"math"
	"slices"
	"testing"

	"lathe/api"
	"lathe/ir"
	"lathe/samples"
)

// wrong are choices that are none: just beyond the bounds, far beyond, and such as have bits of right ones.
func wrong() []int {
	return []int{
		-1, -2, -16, -31, -32, -33, -1 << 31, -1<<31 - 1, -1<<32 + 3, math.MinInt + 31, math.MinInt,
		32, 33, 48, 63, 64, 255, 1 << 16, 1<<31 - 1, 1 << 31, 1<<31 + 8, 1 << 32, 1<<32 + 31, 1 << 62, math.MaxInt - 31, math.MaxInt,
	}
}

// TestWrongPasses: OP1 and rule 2, a choice that is none: ErrArg, and nothing beside it.
func TestWrongPasses(t *testing.T) {
	for _, c := range []api.Code{{}, half(t), samples.EveryOp()} {
		for _, choice := range wrong() {
			if d, e := Run(c, choice); e != errArg || !isNothing(d) {
				t.Errorf("Run(.., %d) = %s, %d", choice, samples.Show(d), e)
			}
		}
	}
}

// each has something for each pass to do: a product with 1, a gradient that is taken twice, what nothing hangs on, vectors that may share a
// loop, and registers.
const each = "Number D0 =3f800000; Grad D8; Mul D9 A8 B0; Grad D10; Add D11 A9 B10; Param D12; Number D1 =40000000; Out A11"

// TestEachPass: OP1, what each pass makes by itself, and some of them together. Which code that is, is the program's own choice.
func TestEachPass(t *testing.T) {
	for _, x := range []struct {
		choice int
		want   string
		regs   []int // how many of each sort are left
	}{
		{0, each, []int{4, 4, 4, 4, 2}},
		{passFold, "Number D0 =3f800000; Grad D8; Copy D9 A8; Grad D10; Add D11 A9 B10; Param D12; Number D1 =40000000; Out A11", []int{4, 4, 4, 4, 2}},
		{passReuse, "Number D0 =3f800000; Grad D8; Mul D9 A8 B0; Add D11 A9 B8; Param D12; Number D1 =40000000; Out A11", []int{4, 4, 4, 4, 2}},
		{passPrune, "Number D0 =3f800000; Grad D1; Mul D2 A1 B0; Grad D3; Add D4 A2 B3; Out A4", []int{1, 0, 4, 0, 0}},
		{passFuse, "Number D0 =3f800000; Number D1 =40000000; Loop; Grad D8; Mul D9 A8 B0; Grad D10; Add D11 A9 B10; Out A11; Next; Loop N1; Param D12; Next", []int{4, 4, 4, 4, 2}},
		{passAlloc, "Number D0 =3f800000; Grad D1; Mul D1 A1 B0; Grad D2; Add D1 A1 B2; Param D3; Number D0 =40000000; Out A1", []int{1, 0, 2, 1, 0}},
		{passFold + passReuse, "Number D0 =3f800000; Grad D8; Add D11 A8 B8; Param D12; Number D1 =40000000; Out A11", []int{4, 4, 4, 4, 2}},
		{passFold + passReuse + passPrune, "Grad D0; Add D1 A0 B0; Out A1", []int{0, 0, 2, 0, 0}},
		{passFold + passReuse + passPrune + passFuse, "Loop; Grad D0; Add D1 A0 B0; Out A1; Next", []int{0, 0, 2, 0, 0}},
		{31, "Loop; Grad D0; Add D0 A0 B0; Out A0; Next", []int{0, 0, 1, 0, 0}},
	} {
		d := holdForm(t, usual(each), x.choice)
		if !slices.Equal(d.List, read(x.want)) || !slices.Equal(samples.Registers(d), x.regs) {
			t.Errorf("passes %d: %s", x.choice, samples.Show(d))
		}
	}
	holdUsual(t, each)
}

// TestOrder: OP1, of each two passes the one that comes first in the chapter is done first: the other way round something would be left.
func TestOrder(t *testing.T) {
	for _, x := range []struct{ first, then, text, want string }{
		{"fold", "reuse", "Number D0 =3f800000; Grad D8; Mul D9 A8 B0; Out A9", "Number D0 =3f800000; Grad D8; Out A8"},
		{"fold", "prune", "Number D0 =3f800000; Add D1 A0 B0; Copy D8 A1; Out A8", "Number D0 =40000000; Copy D1 A0; Out A1"},
		{"fold", "fuse", "Number D0 =3f800000; Whole D4; Grad D8; When A4; Number D1; End; Neg D9 A8; Out A9", "Number D0 =3f800000; Whole D4; Loop; Grad D8; Neg D9 A8; Out A9; Next"},
		{"fold", "alloc", "Number D0 =3f800000; Number D1 =40000000; Add D2 A0 B1; Copy D8 A2; Out A8", "Number D0 =3f800000; Number D0 =40000000; Number D0 =40400000; Copy D1 A0; Out A1"},
		{"reuse", "prune", "Grad D8; Grad D9; Sub D10 A8 B9; Out A10", "Grad D0; Sub D1 A0 B0; Out A1"},
		{"reuse", "fuse", "Grad D8; Sum D0 A8; Grad D9; Sum D1 A9; Copy D10 A1; Out A10", "Loop; Grad D8; Next; Sum D0 A8; Loop; Copy D10 A0; Out A10; Next"},
		{"reuse", "alloc", "Grad D8; Grad D9; Sub D10 A8 B9; Out A10", "Grad D0; Sub D0 A0 B0; Out A0"},
		{"prune", "fuse", "Grad D8; Sum D0 A8; Neg D9 A8; Out A9", "Loop; Grad D0; Neg D1 A0; Out A1; Next"},
		{"prune", "alloc", "Number D0 =3f800000; Store A0; Number D1 =40000000; Copy D8 A1; Out A8", "Number D0 =40000000; Copy D1 A0; Out A1"},
		{"fuse", "alloc", "Number D0 =40000000; Grad D8; Mul D9 A8 B0; Number D1 =3f000000; Mul D10 A9 B1; Out A10", "Number D0 =40000000; Number D1 =3f000000; Loop; Grad D2; Mul D2 A2 B0; Mul D2 A2 B1; Out A2; Next"},
	} {
		names := []string{"fold", "reuse", "prune", "fuse", "alloc"}
		first, then := slices.Index(names, x.first), slices.Index(names, x.then)
		d := holdForm(t, usual(x.text), 1<<first+1<<then)
		if !slices.Equal(d.List, read(x.want)) {
			t.Errorf("%s, then %s: %s", x.first, x.then, samples.Show(d))
		}
		turned, _ := passes()[then](usual(x.text))
		turned, _ = passes()[first](turned)
		if ir.Equal(turned, d) {
			t.Errorf("%s, then %s is the same the other way round", x.first, x.then)
		}
		holdUsual(t, x.text)
	}
}

// TestOnce: OP1, each pass is done once, also where it would find more behind another one.
func TestOnce(t *testing.T) {
	for _, x := range []struct {
		choice      int
		text        string
		once, twice string
	}{
		{passFold + passReuse, "Whole D4 N3; Copy D5 A4; Grad D8; When A5; Out A8; End", "Whole D4 N3; Grad D8; When A4; Out A8; End", "Whole D4 N3; Grad D8; Out A8"},
		{passFold + passPrune, "Number D0 =3f800000; Whole D4; Grad D8; Mul D9 A8 B0; Copy D10 A9; Out A10; Store A4 N6", "Grad D0; Copy D1 A0; Copy D2 A1; Out A2", ""},
		{passReuse + passFuse, "Grad D8; Sum D0 A8; Mul D9 A8 B0; Out A9", "Loop; Grad D8; Next; Sum D0 A8; Loop; Mul D9 A8 B0; Out A9; Next", ""},
		{15, "Number D0 =3f800000; Whole D4; Copy D5 A4; When A5; Number D0 =40000000; End; Grad D8; Mul D9 A8 B0; Out A9", "Number D0 =3f800000; Whole D1; When A1; Number D0 =40000000; End; Loop; Grad D2; Mul D3 A2 B0; Out A3; Next", "Loop; Grad D0; Out A0; Next"},
	} {
		if x.twice == "" {
			x.twice = x.once
		}
		d := holdForm(t, usual(x.text), x.choice)
		again := holdForm(t, d, x.choice)
		if !slices.Equal(d.List, read(x.once)) || !slices.Equal(again.List, read(x.twice)) {
			t.Errorf("passes %d: %s; done twice: %s", x.choice, samples.Show(d), samples.Show(again))
		}
		holdUsual(t, x.text)
	}
}

// TestWithoutPasses: OP2, with passes 0 code stays as it is, whatever could be done to it.
func TestWithoutPasses(t *testing.T) {
	g := &samples.Grower{Source: 3}
	list := []api.Code{{}, {Sign: []api.Param{}, Regs: []api.Type{}, Slots: []api.Slot{}, List: []api.Inst{}}, usual(each), samples.EveryOp(), half(t)}
	for range 1000 {
		list = append(list, g.Code(60), g.Looped(g.SingleCode(60)))
	}
	for _, c := range list {
		if d := ran(t, c, 0); !ir.Equal(c, d) {
			t.Fatalf("%s became %s", samples.Show(c), samples.Show(d))
		}
	}
}
