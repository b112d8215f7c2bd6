package prune

import (
	"slices"
	"testing"

	"lathe/alike"
	"lathe/api"
	"lathe/check"
	"lathe/fold"
	"lathe/ir"
	"lathe/lower"
	"lathe/reuse"
	"lathe/samples"
)

// changes counts what pruning did to codes, so that a test can tell whether it saw enough.
type changes struct{ codes, shorter, slots, kept, loaded, blocks, inner, loops, stayed, emptied int }

func (n *changes) take(c, d api.Code) {
	n.codes++
	a, b := samples.Counts(c), samples.Counts(d)
	before, _ := ir.Kept(c)
	after, _ := ir.Kept(d)
	isLess := len(d.List) < len(c.List) && len(d.List) > 0
	for _, x := range []struct {
		count *int
		is    bool
	}{
		{&n.shorter, isLess},
		{&n.slots, isLess && b[33] > 0 && len(d.Slots) < len(c.Slots)},
		{&n.kept, isLess && after > 0 && after < before},
		{&n.loaded, isLess && b[32] > 0 && b[33] > 0 && b[32] < a[32]},
		{&n.blocks, isLess && b[34] > 0},
		{&n.inner, b[34] > 0 && b[34] < a[34]},
		{&n.loops, b[36] > 0 && b[36] < a[36]},
		{&n.stayed, len(c.List) > 3 && len(d.List) == len(c.List)},
		{&n.emptied, len(c.List) > 3 && len(d.List) == 0},
	} {
		if x.is {
			*x.count++
		}
	}
}

func (n *changes) hold(t *testing.T, least int) {
	t.Helper()
	if min(n.shorter, n.slots, n.kept, n.loaded, n.blocks, n.inner, n.loops) < least {
		t.Errorf("not enough was seen: %+v", *n)
	}
}

// TestCodesFromAllOver: PN1 and PN2, codes in which registers are set again and again, and single ones, with fewer and fewer OpOuts.
func TestCodesFromAllOver(t *testing.T) {
	g, seen, single := &samples.Grower{Source: 20}, &changes{}, &changes{}
	for range 4000 {
		for _, c := range []api.Code{g.Code(50), g.SingleCode(50)} {
			for range 3 {
				d := hold(t, g, c)
				seen.take(c, d)
				if samples.IsSingle(c) {
					single.take(c, d)
				}
				c = quiet(g, c)
			}
		}
	}
	seen.hold(t, 200)
	single.hold(t, 100)
	if seen.stayed < 300 || seen.emptied < 300 {
		t.Errorf("not enough stayed or went: %+v", *seen)
	}
}

// TestLongCodes: PN1 and PN2, codes of some hundred instructions.
func TestLongCodes(t *testing.T) {
	g, seen := &samples.Grower{Source: 22}, &changes{}
	for range 60 {
		for _, c := range []api.Code{g.Code(400), g.SingleCode(400)} {
			seen.take(c, hold(t, g, c))
			c = quiet(g, quiet(g, c))
			seen.take(c, hold(t, g, c))
		}
	}
	seen.hold(t, 20)
}

// TestPrograms: PN1 and PN2, the codes of typed programs, as they are lowered, and behind folding and reuse; some without some of their
// OpOuts.
func TestPrograms(t *testing.T) {
	g, seen := &samples.Grower{Source: 23}, &changes{}
	for i := range 1600 {
		list := g.Params(3)
		may := func(x api.Tx) bool { return check.Valid(x, list) == api.OK }
		x := g.Program(1+i%4, len(list), may)
		if i < 2*len(samples.Rows()) {
			list = []api.Param{{Name: "w", Kind: 1, Len: 2}, {Name: "b", Kind: 1, Len: 1}}
			x = g.Transform(samples.Rows()[i/2], 2, len(list))
		}
		c, e := lower.Lower(x, list)
		if e != api.OK {
			t.Fatalf("Lower(%x) = %d", x, e)
		}
		holdProgram(t, g, c)
		f, _ := fold.Fold(c)
		r, _ := reuse.Reuse(f)
		d := holdProgram(t, g, r)
		seen.take(r, d)
		kept := slices.DeleteFunc(markedSlots(t, r), func(b alike.Both) bool { return !c.Slots[b.First].Keep })
		holdMeaning(t, g, c, d, kept, 4) // those passes leave the numbers of slots as they are
		q := quiet(g, r)
		seen.take(q, holdProgram(t, g, q))
	}
	if seen.shorter < 800 || seen.kept < 250 || seen.blocks < 60 || seen.stayed < 500 {
		t.Errorf("not enough was seen: %+v", *seen)
	}
}

// holdProgram: PN1 and PN2 of code; of long code what it means alone, as the chapter's words are slow.
func holdProgram(t *testing.T, g *samples.Grower, c api.Code) api.Code {
	t.Helper()
	if len(c.List) < 500 {
		return hold(t, g, c)
	}
	d := holdForm(t, c)
	holdMeaning(t, g, c, d, markedSlots(t, c), 4)
	return d
}
