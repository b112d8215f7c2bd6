package reuse

import (
	"testing"

	"lathe/api"
	"lathe/check"
	"lathe/fold"
	"lathe/ir"
	"lathe/lower"
	"lathe/samples"
)

// changes counts what reuse did to codes, so that a test can tell whether it saw enough.
type changes struct{ codes, copies, twins, loops, blocks, stayed int }

func (n *changes) take(c, d api.Code) {
	a, b := samples.Counts(c), samples.Counts(d)
	n.codes++
	copies := a[3] - b[3]
	twins := len(c.List) - len(d.List) - copies
	if copies > 0 {
		n.copies++
	}
	if twins > 0 {
		n.twins++
	}
	if copies+twins > 0 && b[36] > 0 {
		n.loops++
	}
	if copies+twins > 0 && b[34] > 0 {
		n.blocks++
	}
	if ir.Equal(c, d) && len(c.List) > 3 {
		n.stayed++
	}
}

func (n *changes) hold(t *testing.T, least int) {
	t.Helper()
	if n.copies < least || n.twins < least || n.blocks < least || n.loops < least {
		t.Errorf("not enough was seen: %+v", *n)
	}
}

// TestSingleCodesFromAllOver: RE1 to RE4, single codes as they come, and full of twins and copies: it is the same to take one after the
// other away, as long as there is one.
func TestSingleCodesFromAllOver(t *testing.T) {
	g, seen := &samples.Grower{Source: 20}, &changes{}
	for range 8000 {
		c := g.SingleCode(50)
		for range 2 {
			if !samples.IsSingle(c) {
				t.Fatalf("%s is not single", samples.Show(c))
			}
			d := hold(t, g, c)
			seen.take(c, d)
			if want := slowly(c); !ir.Equal(d, want) {
				t.Fatalf("%s became %s, want %s", samples.Show(c), samples.Show(d), samples.Show(want))
			}
			c = thick(g, c)
		}
	}
	seen.hold(t, 3000)
	if seen.stayed < 500 {
		t.Errorf("not enough stayed: %+v", *seen)
	}
}

// TestCodesFromAllOver: RE1 and RE2, codes in which registers are set again and again.
func TestCodesFromAllOver(t *testing.T) {
	g, seen := &samples.Grower{Source: 21}, &changes{}
	single := 0
	for range 12000 {
		c := g.Code(50)
		seen.take(c, hold(t, g, c))
		c = thick(g, c)
		seen.take(c, hold(t, g, c))
		if samples.IsSingle(c) {
			single++
		}
	}
	seen.hold(t, 500)
	if single > seen.codes/4 {
		t.Errorf("%d were single of %+v", single, *seen)
	}
}

// TestLongCodes: RE1 to RE4, codes of some thousand instructions.
func TestLongCodes(t *testing.T) {
	g, seen := &samples.Grower{Source: 22}, &changes{}
	for range 20 {
		for _, c := range []api.Code{g.Code(2000), g.SingleCode(1000)} {
			c = thick(g, c)
			seen.take(c, hold(t, g, c))
		}
	}
	seen.hold(t, 15)
}

// TestPrograms: RE1 to RE4, the codes of typed programs, as they are lowered, behind folding, and full of twins and copies.
func TestPrograms(t *testing.T) {
	g, seen := &samples.Grower{Source: 23}, &changes{}
	for i := range 1200 {
		list := g.Params(3)
		may := func(x api.Tx) bool { return check.Valid(x, list) == api.OK }
		x := g.Program(1+i%4, len(list), may)
		if i < 2*len(samples.Rows()) {
			list = []api.Param{{Name: "w", Kind: 1, Len: 2}, {Name: "b", Kind: 1, Len: 1}}
			x = g.Transform(samples.Rows()[i/2], 2, len(list))
		}
		c, e := lower.Lower(x, list)
		if e != api.OK {
			t.Fatalf("Lower(%x) = %d", x, e)
		}
		d := hold(t, g, c)
		holdMeaning(t, g, c, d, 4)
		f, _ := fold.Fold(c)
		d = hold(t, g, f)
		seen.take(f, d)
		holdMeaning(t, g, c, d, 4)
		hold(t, g, thick(g, f))
	}
	if seen.copies < 150 || seen.twins < 700 || seen.blocks < 40 {
		t.Errorf("not enough was seen: %+v", *seen)
	}
}
