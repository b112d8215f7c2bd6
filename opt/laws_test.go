package opt

import (
	"testing"

	"lathe/alike"
	"lathe/api"
	"lathe/check"
	"lathe/ir"
	"lathe/lower"
	"lathe/mealy"
	"lathe/samples"
)

// changes counts what became of codes, so that a test can tell whether it saw enough.
type changes struct {
	codes, single, blocks, loops, kept, updates, waiting int
	by                                                   [5]int // how many codes each pass changes by itself
	behind                                               [5]int // how many it changes behind all those ahead of it
	turned                                               [4]int // to how many each pass and the next one do something else the other way round
}

func (n *changes) take(w *crew) {
	c, made := w.codes[0], w.codes[1:]
	count := samples.Counts(c)
	slots, _ := ir.Kept(c)
	n.codes++
	for _, x := range []struct {
		count *int
		is    bool
	}{
		{&n.single, samples.IsSingle(c)},
		{&n.blocks, count[34] > 0},
		{&n.loops, count[36] > 0},
		{&n.kept, slots > 0 && count[32] > 0 && count[33] > 0},
		{&n.updates, count[31] > 0},
		{&n.waiting, len(made[passAlloc].Slots) > len(c.Slots)},
	} {
		if x.is {
			*x.count++
		}
	}
	for k := range passes() {
		if !ir.Equal(made[1<<k], c) {
			n.by[k]++
		}
		if !ir.Equal(made[1<<k-1], made[2<<k-1]) {
			n.behind[k]++
		}
		if k == 0 {
			continue
		}
		d, e := passes()[k-1](made[1<<k])
		if e != api.OK || !ir.Equal(d, made[3<<(k-1)]) {
			n.turned[k-1]++
		}
	}
}

// hold tells whether each pass changed so many codes, and each two of them as many by their order.
func (n *changes) hold(t *testing.T, by, turned int) {
	t.Helper()
	for k := range n.by {
		if n.by[k] < by || n.behind[k] < by || k > 0 && n.turned[k-1] < turned {
			t.Errorf("not enough was seen: %+v", *n)
			return
		}
	}
}

// TestCodesFromAllOver: OP1 to OP4, codes in which registers are set again and again, and single ones, with loops and without.
func TestCodesFromAllOver(t *testing.T) {
	g, seen := &samples.Grower{Source: 20}, &changes{}
	for n := range 300 {
		c := g.SingleCode(20 + n%4*20)
		for _, c := range []api.Code{c, g.Looped(c), g.Merged(c, 1+g.Below(20)), g.Code(50), g.Looped(g.Code(50))} {
			seen.take(hold(t, g, c, 3))
		}
	}
	seen.hold(t, 200, 30)
	if min(seen.single, seen.blocks, seen.loops, seen.kept, seen.updates) < 200 {
		t.Errorf("not enough was seen: %+v", *seen)
	}
}

// TestLongCodes: OP1 to OP4, codes of some hundred instructions, in which much is alive at once.
func TestLongCodes(t *testing.T) {
	g, seen := &samples.Grower{Source: 22}, &changes{}
	for range 20 {
		c := g.SingleCode(900)
		for _, c := range []api.Code{c, g.Looped(c), g.Merged(c, 15+g.Below(40)), g.Code(400)} {
			seen.take(hold(t, g, c, 3))
		}
	}
	seen.hold(t, 20, 4)
	if seen.waiting < 8 {
		t.Errorf("not enough was seen: %+v", *seen)
	}
}

// TestKeptFromAllOver: P5, what codes from all over keep.
func TestKeptFromAllOver(t *testing.T) {
	g := &samples.Grower{Source: 24}
	for n := range 200 {
		c := g.SingleCode(60)
		if n%2 == 0 {
			c = g.Code(60)
		}
		holdKept(t, g, c, 2)
	}
}

// TestPrograms: OP1 to OP4 and P3, the codes of typed programs, of every transform: behind each choice of the passes they do what the meaning's
// machine does.
func TestPrograms(t *testing.T) {
	g, seen := &samples.Grower{Source: 23}, &changes{}
	for i := range 500 {
		list := g.Params(3)
		may := func(x api.Tx) bool { return check.Valid(x, list) == api.OK }
		x := g.Program(1+i%4, len(list), may)
		if i < 4*len(samples.Rows()) {
			list = [][]api.Param{
				{{Name: "w", Kind: 1, Len: 2}, {Name: "b", Kind: 1, Len: 1}}, {{Name: "z", Kind: 2, Len: 1}, {Name: "w", Kind: 1, Len: 3}},
			}[i%2]
			x = g.Transform(samples.Rows()[i/4], 2, len(list))
			if !may(x) {
				x = api.Tx{Op: api.TxSplit, Kids: []api.Tx{x}}
			}
			if !may(x) { // what is in it has complex numbers
				list = []api.Param{{Name: "w", Kind: 1, Len: 1}, {Name: "u", Kind: 1, Len: 2}}
			}
		}
		c, e := lower.Lower(x, list)
		means, f := mealy.New(x, list)
		if e != api.OK || f != api.OK {
			t.Fatalf("%d, %d: %x", e, f, x)
		}
		w := crewOf(t, c)
		for range 6 {
			grads, params := vectorsOf(g, list), vectorsOf(g, list)
			u := w.step(t, grads, params)
			if want, _ := means.Step(grads, params); !same(u, want) {
				t.Fatalf("%x: %08x, want %08x", x, u, want)
			}
		}
		seen.take(w)
	}
	seen.hold(t, 20, 1)
	if min(seen.single, seen.updates) < 400 || seen.kept < 200 || seen.blocks < 30 {
		t.Errorf("not enough was seen: %+v", *seen)
	}
}

// TestHeavy: OP1 to OP4, chains of many transforms over many parameters, which keep much alive at once.
func TestHeavy(t *testing.T) {
	g := &samples.Grower{Source: 25}
	for range 12 {
		list := g.Params(6)
		may := func(x api.Tx) bool { return check.Valid(x, list) == api.OK }
		x := api.Tx{Op: api.TxChain}
		for range 6 {
			x.Kids = append(x.Kids, g.Program(3, len(list), may))
		}
		c, e := lower.Lower(api.Tx{Op: api.TxMultiSteps, Ints: []int{2}, Kids: []api.Tx{x}}, list)
		if e != api.OK {
			t.Fatalf("Lower(%x) = %d", x, e)
		}
		hold(t, g, c, 5)
	}
}

// TestAgain: OP1 to OP3, what some passes made is code as any: other passes take it, and do not change what it means.
func TestAgain(t *testing.T) {
	g := &samples.Grower{Source: 26}
	for n := range 200 {
		c := g.SingleCode(60)
		if n%2 == 0 {
			c = g.Code(60)
		}
		d := ran(t, c, g.Below(subsets))
		hold(t, g, d, 3)
		if unlike := alike.Difference(g, c, ran(t, d, g.Below(subsets)), 3, nil); unlike != "" {
			t.Fatal(unlike)
		}
	}
}
