package fuse

import (
	"testing"

	"lathe/api"
	"lathe/check"
	"lathe/fold"
	"lathe/lower"
	"lathe/prune"
	"lathe/reuse"
	"lathe/samples"
)

// changes counts what fusing did to codes, so that a test can tell whether it saw enough.
type changes struct{ codes, single, loose, neighbours, fewer, cut, moved, inner, params int }

func (n *changes) take(c, d api.Code) {
	n.codes++
	before, after := samples.Counts(c), samples.Counts(d)
	for _, x := range []struct {
		count *int
		is    bool
	}{
		{&n.single, samples.IsSingle(c)},
		{&n.loose, samples.LooseAt(c) >= 0},
		{&n.neighbours, samples.NeighboursAt(c) >= 0},
		{&n.fewer, after[36] > 0 && after[36] < before[36]},
		{&n.cut, after[36] > len(c.Sign) && after[34] == 0},
		{&n.moved, listed(samples.Bare(c)) != listed(samples.Bare(d))},
		{&n.inner, loopsInBlocks(d) > 0},
		{&n.params, paramsOfLoops(d) > 1},
	} {
		if x.is {
			*x.count++
		}
	}
}

func (n *changes) hold(t *testing.T, least int) {
	t.Helper()
	if min(n.loose, n.cut, n.moved, n.inner, n.params) < least {
		t.Errorf("not enough was seen: %+v", *n)
	}
}

// loopsInBlocks is how many loops stand in blocks of OpWhen.
func loopsInBlocks(c api.Code) int {
	depth, count := 0, 0
	for _, i := range c.List {
		depth += samples.Deeper(i)
		if i.Op == 36 && depth > 0 {
			count++
		}
	}
	return count
}

// paramsOfLoops is of how many parameters a code has loops.
func paramsOfLoops(c api.Code) int {
	params := map[int]bool{}
	for _, i := range c.List {
		if i.Op == 36 {
			params[i.N] = true
		}
	}
	return len(params)
}

// TestCodesFromAllOver: FU1 to FU3, codes in which registers are set again and again, and single ones, with loops from all over.
func TestCodesFromAllOver(t *testing.T) {
	g, seen := &samples.Grower{Source: 20}, &changes{}
	for range 2500 {
		for _, c := range []api.Code{g.Code(60), g.SingleCode(60)} {
			for range 2 {
				seen.take(c, hold(t, g, c))
				c = g.Looped(c)
			}
		}
	}
	seen.hold(t, 600)
	if min(seen.single, seen.neighbours, seen.fewer) < 500 {
		t.Errorf("not enough was seen: %+v", *seen)
	}
}

// TestLongCodes: FU1 to FU3, codes of some hundred instructions.
func TestLongCodes(t *testing.T) {
	g, seen := &samples.Grower{Source: 22}, &changes{}
	for range 80 {
		for _, c := range []api.Code{g.Code(500), g.SingleCode(500)} {
			seen.take(c, hold(t, g, c))
			c = g.Looped(c)
			seen.take(c, hold(t, g, c))
		}
	}
	seen.hold(t, 15)
}

// TestPrograms: FU1 to FU3, the codes of typed programs, as they are lowered, and behind folding, reuse and pruning; fusing fused code, and
// these passes behind fusing, too.
func TestPrograms(t *testing.T) {
	g, seen := &samples.Grower{Source: 23}, &changes{}
	for i := range 1200 {
		list := g.Params(3)
		may := func(x api.Tx) bool { return check.Valid(x, list) == api.OK }
		x := g.Program(1+i%4, len(list), may)
		if i < 2*len(samples.Rows()) {
			list = []api.Param{{Name: "w", Kind: 1, Len: 2}, {Name: "b", Kind: 1, Len: 1}}
			x = g.Transform(samples.Rows()[i/2], 2, len(list))
		}
		c, e := lower.Lower(x, list)
		if e != api.OK {
			t.Fatalf("Lower(%x) = %d", x, e)
		}
		seen.take(c, hold(t, g, c))
		f, _ := fold.Fold(c)
		r, _ := reuse.Reuse(f)
		p, _ := prune.Prune(r)
		d := hold(t, g, p)
		seen.take(p, d)
		f, _ = fold.Fold(d)
		r, _ = reuse.Reuse(f)
		hold(t, g, r)
	}
	seen.hold(t, 100)
}
