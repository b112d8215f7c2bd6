package verify

import (
	"slices"
	"testing"

	"lathe/alloc"
	"lathe/api"
	"lathe/check"
	"lathe/fold"
	"lathe/fuse"
	"lathe/ir"
	"lathe/lower"
	"lathe/prune"
	"lathe/reuse"
	"lathe/samples"
)

// costOfCode is what Cost tells of code that is well formed.
func costOfCode(t *testing.T, c api.Code) int {
	t.Helper()
	cost, e := Cost(c)
	if e != api.OK {
		t.Fatalf("Cost = %d: %s", e, samples.Show(c))
	}
	return cost
}

// TestCodesFromAllOver: VE1 to VE3, codes from all over.
func TestCodesFromAllOver(t *testing.T) {
	g, ops := &samples.Grower{Source: 11}, map[int]bool{}
	for n := range 2500 {
		for _, c := range []api.Code{g.Code(60), g.SingleCode(n % 150)} {
			if !hold(t, c) {
				t.Fatalf("%s is not well formed", samples.Show(c))
			}
			for op := range samples.Counts(c) {
				ops[op] = true
			}
		}
	}
	if len(ops) != 37 {
		t.Errorf("only %d kinds of instructions", len(ops))
	}
}

// TestLongerVectors: VE1 to VE3, codes from all over whose parameters have other lengths: each instruction then costs what its table says.
func TestLongerVectors(t *testing.T) {
	g := &samples.Grower{Source: 12}
	for range 1500 {
		c := g.Code(40)
		for n := range c.Sign {
			c.Sign[n].Len = []int{1, 2, 61, 62, 63, 1000, 4095, 4096}[g.Below(8)]
		}
		if !hold(t, c) {
			t.Fatalf("%s is not well formed", samples.Show(c))
		}
	}
}

// TestPrograms: VE1 to VE3, the codes of typed programs, as they are lowered, and behind each choice of the passes.
func TestPrograms(t *testing.T) {
	g := &samples.Grower{Source: 13}
	for n := range 800 {
		list := g.Params(3)
		may := func(x api.Tx) bool { return check.Valid(x, list) == api.OK }
		c, e := lower.Lower(g.Program(1+n%4, len(list), may), list)
		for bit, pass := range []func(c api.Code) (api.Code, api.Errno){fold.Fold, reuse.Reuse, prune.Prune, fuse.Fuse, alloc.Alloc} {
			if e == api.OK && n>>bit&1 == 1 {
				c, e = pass(c)
			}
		}
		if e != api.OK {
			t.Fatalf("no code: %d", e)
		}
		if len(c.List) < 400 {
			hold(t, c)
		} else {
			holdTold(t, c, wantCost(c), wantRoom(c), api.OK)
		}
	}
}

// TestBeginnings: VE3, with each instruction that follows, the cost grows by what that one costs, be there open blocks that have to be ended
// or not.
func TestBeginnings(t *testing.T) {
	g, count := &samples.Grower{Source: 14}, 0
	for range 1500 {
		c := g.Code(40)
		last, open := 0, []api.Inst{}
		for at, i := range c.List {
			switch i.Op {
			case api.OpWhen, api.OpLoop:
				open = append(open, api.Inst{Op: i.Op + 1})
			case api.OpEnd, api.OpNext:
				open = open[:len(open)-1]
			}
			d := c
			d.List = slices.Clone(c.List[:at+1])
			for _, end := range slices.Backward(open) {
				d.List = append(d.List, end)
			}
			cost := costOfCode(t, d) - len(open)
			if one, _ := Weigh(d, at); cost != last+one || cost <= last || one != wantWeigh(c, i) {
				t.Fatalf("%d and %d are %d: %s", last, one, cost, samples.Show(d))
			}
			last = cost
			count++
		}
		if last != costOfCode(t, c) {
			t.Fatalf("%d: %s", last, samples.Show(c))
		}
	}
	if count < 10000 {
		t.Errorf("only %d", count)
	}
}

// TestPutAnywhere: VE3, an instruction that is put to code wherever it may stand makes it cost more, by what that one costs; the room is
// what it was.
func TestPutAnywhere(t *testing.T) {
	g, count := &samples.Grower{Source: 15}, 0
	for range 12000 {
		c := g.Code(30)
		if len(c.List) == 0 {
			continue
		}
		at, i := g.Below(len(c.List)+1), c.List[g.Below(len(c.List))]
		d := c
		d.List = slices.Insert(slices.Clone(c.List), at, i)
		if e, _ := ir.Check(d); e != api.OK {
			continue
		}
		count++
		old, cost := costOfCode(t, c), costOfCode(t, d)
		one, _ := Weigh(d, at)
		before, _ := Room(c)
		room, _ := Room(d)
		if cost != old+one || cost <= old || room != before {
			t.Fatalf("%d and %d are %d, %d became %d: %s", old, one, cost, before, room, samples.Show(d))
		}
	}
	if count < 3000 {
		t.Errorf("only %d", count)
	}
}

// shuffle puts a list in another order.
func shuffle[T any](g *samples.Grower, list []T) {
	for n := len(list) - 1; n > 0; n-- {
		k := g.Below(n + 1)
		list[n], list[k] = list[k], list[n]
	}
}

// TestAnyOrder: VE3, where all registers are set, what stands behind that may stand in any order: the cost is the same, and each
// instruction costs what it did elsewhere.
func TestAnyOrder(t *testing.T) {
	g := &samples.Grower{Source: 16}
	var plain []api.Inst
	for _, i := range samples.EveryOp().List {
		if i.Op < api.OpWhen {
			plain = append(plain, i)
		}
	}
	plain = append(plain, read("Add D12 A13 B14; Copy D16 A0; Copy D4 A5; Select D8 A9 B0 C10; Sum D0 A16; Least D1 A14; Store A17 N9; Store A4 N6; Load D13 N8; Power D0 A1 B5; Grad D12 N1; Param D16; Out A15; Out A10")...)
	for range 400 {
		c := behind("")
		for range g.Below(40) {
			c.List = append(c.List, plain[g.Below(len(plain))])
		}
		hold(t, c)
		cost := costOfCode(t, c)
		for range 5 {
			shuffle(g, c.List[settings:])
			if again := costOfCode(t, c); again != cost {
				t.Fatalf("%d became %d: %s", cost, again, samples.Show(c))
			}
		}
		hold(t, c)
	}
}

// TestSwapped: VE3, codes from all over, with blocks and loops, in whatever other order they are well formed: the cost is the same.
func TestSwapped(t *testing.T) {
	g, count := &samples.Grower{Source: 17}, 0
	for range 3000 {
		c := g.Code(40)
		if len(c.List) < 2 {
			continue
		}
		cost := costOfCode(t, c)
		d := samples.CloneCode(c)
		for range 20 {
			at, other := g.Below(len(d.List)), g.Below(len(d.List))
			if d.List[at] == d.List[other] {
				continue
			}
			d.List[at], d.List[other] = d.List[other], d.List[at]
			if e, _ := ir.Check(d); e != api.OK {
				d.List[at], d.List[other] = d.List[other], d.List[at]
				continue
			}
			count++
			if again := costOfCode(t, d); again != cost {
				t.Fatalf("%d became %d: %s", cost, again, samples.Show(d))
			}
		}
	}
	if count < 5000 {
		t.Errorf("only %d", count)
	}
}

// TestMarksOrNone: VE3, a loop costs its two marks more than what stands in it.
func TestMarksOrNone(t *testing.T) {
	g, loops := &samples.Grower{Source: 18}, 0
	for range 2000 {
		c := g.Code(60)
		d := samples.CloneCode(c)
		d.List = slices.DeleteFunc(d.List, func(i api.Inst) bool { return i.Op == api.OpLoop || i.Op == api.OpNext })
		marks := len(c.List) - len(d.List)
		loops += marks / 2
		if costOfCode(t, c) != costOfCode(t, d)+marks {
			t.Fatalf("%s", samples.Show(c))
		}
	}
	if loops < 1000 {
		t.Errorf("only %d", loops)
	}
}
