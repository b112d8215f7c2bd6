package fold

import (
	"testing"

	"lathe/api"
	"lathe/check"
	"lathe/ir"
	"lathe/lower"
	"lathe/samples"
)

// changes counts what folding did to codes, so that a test can tell whether it saw enough.
type changes struct{ codes, constants, copies, blocks, marks, stayed int }

func (n *changes) take(c, d api.Code) {
	a, b := samples.Counts(c), samples.Counts(d)
	n.codes++
	if b[1]+b[2] > a[1]+a[2] {
		n.constants++
	}
	if b[3] > a[3] {
		n.copies++
	}
	if b[34] < a[34] {
		n.marks++
	}
	if len(d.List)-2*b[34] < len(c.List)-2*a[34] { // not the marks alone
		n.blocks++
	}
	if ir.Equal(c, d) && len(c.List) > 3 {
		n.stayed++
	}
}

func (n *changes) hold(t *testing.T, least int) {
	t.Helper()
	if n.constants < least || n.copies < least || n.blocks < least || n.marks < least {
		t.Errorf("not enough was seen: %+v", *n)
	}
}

// TestCodesFromAllOver: FO1 to FO4, codes in which registers are set again and again.
func TestCodesFromAllOver(t *testing.T) {
	g, seen := &samples.Grower{Source: 19}, &changes{}
	for range 12000 {
		c := g.Code(60)
		seen.take(c, hold(t, g, c))
		c = rich(g, c)
		seen.take(c, hold(t, g, c))
	}
	seen.hold(t, 400)
	if seen.stayed < 800 {
		t.Errorf("not enough stayed: %+v", *seen)
	}
}

// TestSingleCodesFromAllOver: FO1 to FO4, codes in which each register is set once.
func TestSingleCodesFromAllOver(t *testing.T) {
	g, seen := &samples.Grower{Source: 20}, &changes{}
	for range 12000 {
		c := g.SingleCode(60)
		if !samples.IsSingle(c) {
			t.Fatalf("%s is not single", samples.Show(c))
		}
		seen.take(c, hold(t, g, c))
		c = rich(g, c)
		seen.take(c, hold(t, g, c))
	}
	seen.hold(t, 800)
}

// TestLongCodes: FO1 to FO4, codes of some thousand instructions.
func TestLongCodes(t *testing.T) {
	g, seen := &samples.Grower{Source: 21}, &changes{}
	for range 30 {
		for _, c := range []api.Code{g.Code(3000), g.SingleCode(1500)} {
			c = rich(g, c)
			seen.take(c, hold(t, g, c))
		}
	}
	seen.hold(t, 15)
}

// TestKeepsItsForm: FO4, what is in the form of FO3 already is Equal to what Fold answers.
func TestKeepsItsForm(t *testing.T) {
	g := &samples.Grower{Source: 22}
	kept := 0
	for range 20000 {
		c := rich(g, g.Code(12))
		if leftToFold(c) != "" || len(c.List) < 3 {
			continue
		}
		kept++
		if d := folded(t, c); !ir.Equal(c, d) {
			t.Fatalf("%s became %s", samples.Show(c), samples.Show(d))
		}
	}
	if kept < 2000 {
		t.Errorf("%d were in their form", kept)
	}
}

// TestPrograms: FO1 to FO4, the codes of typed programs: each transform and programs from all over.
func TestPrograms(t *testing.T) {
	g, seen := &samples.Grower{Source: 23}, &changes{}
	for i := range 1500 {
		list := g.Params(3)
		may := func(x api.Tx) bool { return check.Valid(x, list) == api.OK }
		x := g.Program(1+i%4, len(list), may)
		if i < 3*len(samples.Rows()) {
			list = []api.Param{{Name: "w", Kind: 1, Len: 2}, {Name: "b", Kind: 1, Len: 1}}
			x = g.Transform(samples.Rows()[i/3], 2, len(list))
		}
		c, e := lower.Lower(x, list)
		if e != api.OK {
			t.Fatalf("Lower(%x) = %d", x, e)
		}
		d := hold(t, g, c)
		holdMeaning(t, g, c, d, 4)
		seen.take(c, d)
	}
	if seen.constants < 30 || seen.copies < 150 {
		t.Errorf("not enough was seen: %+v", *seen)
	}
}

// TestEveryEdge: FO2 and P12, the identities hold at every edge: a code that hands on its gradient in each of the ways.
func TestEveryEdge(t *testing.T) {
	edges := append(samples.Edges(), samples.NaNs()...)
	c := api.Code{Sign: []api.Param{{Name: "w", Kind: 1, Len: len(edges)}}, Slots: []api.Slot{{Type: api.Type{Kind: 3}, Keep: true}}}
	for _, kind := range []int{1, 1, 1, 3, 3} {
		c.Regs = append(c.Regs, api.Type{Kind: kind})
	}
	ahead := "Number D0 =3f800000; Number D1 =80000000; Number D2; Grad D3;"
	for _, text := range []string{"Mul D4 A0 B3", "Mul D4 A3 B0", "Div D4 A3 B0", "Add D4 A1 B3", "Add D4 A3 B1", "Sub D4 A3 B2", "Select D4 A0 B3 C2", "Select D4 A2 B0 C3", "Select D4 A1 B0 C3"} {
		c.List = read(ahead + text + "; Out A4; Store A4")
		d := holdForm(t, c)
		if at := len(d.List) - 3; d.List[at] != (api.Inst{Op: api.OpCopy, D: 4, A: 3}) {
			t.Errorf("%s: %v", text, d.List[at])
		}
		a, b := running(t, c), running(t, d)
		vectors := [][]api.F{edges}
		u, v := stepped(t, a, vectors, vectors), stepped(t, b, vectors, vectors)
		for i, pattern := range edges {
			want := pattern
			if samples.IsNaN(pattern) {
				want = nan
			}
			if u[0][i] != want || v[0][i] != want {
				t.Errorf("%s of %08x: %08x, %08x", text, pattern, u[0][i], v[0][i])
			}
		}
	}
}
