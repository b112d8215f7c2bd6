package prune

import (
	"testing"

	"lathe/api"
	"lathe/ir"
	"lathe/samples"
)

// holdRefused: PN1 and rule 2, code that is not well formed has ErrCode, and no code beside it.
func holdRefused(t *testing.T, c api.Code) {
	t.Helper()
	if d, e := Prune(c); e != errCode || d.Sign != nil || d.Regs != nil || d.Slots != nil || d.List != nil {
		t.Errorf("Prune = %s, %d: %s", samples.Show(d), e, samples.Show(c))
	}
}

// TestRefused: PN1, whatever ir.Check's error is, it is ErrCode here.
func TestRefused(t *testing.T) {
	seen := map[api.Errno]bool{}
	for _, c := range samples.Broken() {
		e, _ := ir.Check(c)
		seen[e] = true
		holdRefused(t, c)
	}
	if len(seen) != 7 || seen[api.OK] { // of the signature four, of the sizes two, and of the code itself
		t.Errorf("ir.Check's errors were %v", seen)
	}
}

// TestIllFormed: PN1, what is at fault is refused also where no update hangs on it.
func TestIllFormed(t *testing.T) {
	for _, text := range []string{
		"Grad D8; Out A8; Neg D9 A10", "Grad D8; Out A8; Number D0 =7fc00001", "Grad D8; Out A8; Whole D4 N-1", "Grad D8; Out A8; Load D0 N1", "Grad D8; Out A8; Store A8 N3", "Grad D8; Out A8; Store A9 N2",
		"Grad D8; Out A8; Whole D4; When A4", "Grad D8; Out A8; End", "Grad D8; Out A8; Loop; Number D0; Next", "Grad D8; Out A8; Grad D18", "Grad D8; Out A8; Copy D4 A8", "Grad D8; Out A8; Load D0 N10",
		"Load D4 N1; When A4; Grad D8; End; Neg D9 A8", "Load D4 N1; When A5; End", "Loop N3; Next", "Grad D8; Neg D9 A8 B8", "Store A0", "Out A8; Grad D8",
	} {
		holdRefused(t, usual(text))
	}
	for _, spoil := range []func(c *api.Code){
		func(c *api.Code) { c.Regs = append(c.Regs, api.Type{}) }, func(c *api.Code) { c.Slots[9].Bits = 0xffc00000 }, func(c *api.Code) { c.Slots[6].Int = 1 << 31 },
		func(c *api.Code) { c.Slots[0].Int = 1 }, func(c *api.Code) { c.Sign[2].Len = 0 },
	} {
		c := usual("Grad D8; Out A8")
		spoil(&c)
		holdRefused(t, c)
	}
}

// TestTaken: PN1, Prune takes just what is well formed: codes from all over, with a field changed.
func TestTaken(t *testing.T) {
	g := &samples.Grower{Source: 6}
	taken, refused := 0, 0
	for n := range 8000 {
		c := g.Code(20)
		if n%2 == 0 {
			c = quiet(g, g.SingleCode(20))
		}
		if len(c.List) == 0 {
			continue
		}
		i := &c.List[g.Below(len(c.List))]
		*samples.Field(i, "DABCN?"[g.Below(6)]) += g.Below(5) - 2
		if e, _ := ir.Check(c); e == api.OK {
			taken++
			hold(t, g, c)
		} else {
			refused++
			holdRefused(t, c)
		}
	}
	if taken < 1000 || refused < 1000 {
		t.Errorf("%d taken, %d refused", taken, refused)
	}
}
