package alloc

import (
	"testing"

	"lathe/api"
	"lathe/check"
	"lathe/fold"
	"lathe/fuse"
	"lathe/lower"
	"lathe/prune"
	"lathe/reuse"
	"lathe/samples"
)

// changes counts what became of codes, so that a test can tell whether it saw enough.
type changes struct{ codes, single, few, waiting, ready, cut, blocks, several, again int }

func (n *changes) take(c, d api.Code) {
	n.codes++
	before, after := samples.Counts(c), samples.Counts(d)
	slots, list := added(c, d)
	types := map[api.Type]bool{}
	for _, s := range d.Slots[len(c.Slots):] {
		types[s.Type] = true
	}
	for _, x := range []struct {
		count *int
		is    bool
	}{
		{&n.single, samples.IsSingle(c)},
		{&n.few, samples.IsSingle(c) && samples.IsFew(pressureOf(c)) && !samples.IsFew(samples.Registers(c))},
		{&n.waiting, samples.IsSingle(c) && slots > 0},
		{&n.ready, slots == 0 && list > 0},
		{&n.cut, after[36] > before[36]},
		{&n.blocks, slots > 0 && before[34] > 2},
		{&n.several, len(types) > 2},
		{&n.again, !samples.IsSingle(c) && slots > 0},
	} {
		if x.is {
			*x.count++
		}
	}
}

// least is how often each of these was seen, at least.
func least(counts ...int) int {
	few := counts[0]
	for _, n := range counts {
		few = min(few, n)
	}
	return few
}

// TestCodesFromAllOver: RA2 and RA3, single codes, and codes in which registers are set again and again, with loops from all over and with
// those that fusing makes.
func TestCodesFromAllOver(t *testing.T) {
	g, seen := &samples.Grower{Source: 20}, &changes{}
	for n := range 1000 {
		c := g.SingleCode(40 + n%4*120)
		f, _ := fuse.Fuse(c)
		m := g.Merged(c, 1+g.Below(60))
		for _, c := range []api.Code{c, f, m, g.Code(60)} {
			seen.take(c, hold(t, g, c))
		}
	}
	if least(seen.single, seen.few, seen.waiting, seen.ready, seen.cut, seen.blocks, seen.several, seen.again) < 15 {
		t.Errorf("not enough was seen: %+v", *seen)
	}
}

// TestLongCodes: RA2 and RA3, codes of some thousand instructions.
func TestLongCodes(t *testing.T) {
	g, seen := &samples.Grower{Source: 22}, &changes{}
	for range 8 {
		c := g.SingleCode(2000)
		f, _ := fuse.Fuse(c)
		for _, c := range []api.Code{c, f, g.Merged(c, 20+g.Below(200)), g.Merged(f, 10+g.Below(30))} {
			seen.take(c, hold(t, g, c))
		}
	}
	if least(seen.waiting, seen.blocks, seen.cut, seen.several, seen.again) < 2 {
		t.Errorf("not enough was seen: %+v", *seen)
	}
}

// passed is a code behind the passes ahead of alloc that the bits name.
func passed(t *testing.T, c api.Code, passes int) api.Code {
	t.Helper()
	for bit, pass := range []func(c api.Code) (api.Code, api.Errno){fold.Fold, reuse.Reuse, prune.Prune, fuse.Fuse} {
		if passes>>bit&1 == 0 {
			continue
		}
		d, e := pass(c)
		if e != api.OK {
			t.Fatalf("pass %d: %d", bit, e)
		}
		c = d
	}
	return c
}

// TestPrograms: RA2 and RA3, the codes of typed programs, as they are lowered, and behind each choice of the passes ahead; the passes behind
// Alloc too. No such code is refused.
func TestPrograms(t *testing.T) {
	g, seen := &samples.Grower{Source: 23}, &changes{}
	for i := range 1200 {
		list := g.Params(3)
		may := func(x api.Tx) bool { return check.Valid(x, list) == api.OK }
		x := g.Program(1+i%4, len(list), may)
		if i < 2*len(samples.Rows()) {
			list = []api.Param{{Name: "w", Kind: 1, Len: 2}, {Name: "b", Kind: 1, Len: 1}}
			x = g.Transform(samples.Rows()[i/2], 2, len(list))
		}
		c, e := lower.Lower(x, list)
		if e != api.OK {
			t.Fatalf("Lower(%x) = %d", x, e)
		}
		c = passed(t, c, i%16)
		d := hold(t, g, c)
		seen.take(c, d)
		hold(t, g, passed(t, d, i/16%16))
	}
	if least(seen.single, seen.few) < 300 || seen.ready < 5 {
		t.Errorf("not enough was seen: %+v", *seen)
	}
}

// TestHeavy: RA2 and RA3, chains of many transforms over many parameters, which keep much alive at once.
func TestHeavy(t *testing.T) {
	g, seen := &samples.Grower{Source: 24}, &changes{}
	for i := range 60 {
		list := g.Params(6)
		may := func(x api.Tx) bool { return check.Valid(x, list) == api.OK }
		x := api.Tx{Op: api.TxChain}
		for range 6 {
			x.Kids = append(x.Kids, g.Program(3, len(list), may))
		}
		c, e := lower.Lower(api.Tx{Op: api.TxMultiSteps, Ints: []int{2}, Kids: []api.Tx{x}}, list)
		if e != api.OK {
			t.Fatalf("Lower(%x) = %d", x, e)
		}
		c = passed(t, c, i%16)
		seen.take(c, hold(t, g, c))
	}
	if seen.ready+seen.waiting < 5 {
		t.Errorf("not enough was seen: %+v", *seen)
	}
}
