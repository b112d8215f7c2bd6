package fuse

import (
	"testing"

	"lathe/api"
	"lathe/ir"
	"lathe/samples"
)

// holdRefused: FU1 and rule 2, code that is not well formed has ErrCode, and no code beside it.
func holdRefused(t *testing.T, c api.Code) {
	t.Helper()
	if d, e := Fuse(c); e != errCode || d.Sign != nil || d.Regs != nil || d.Slots != nil || d.List != nil {
		t.Errorf("Fuse = %s, %d: %s", samples.Show(d), e, samples.Show(c))
	}
}

// TestRefused: FU1, whatever ir.Check's error is, it is ErrCode here.
func TestRefused(t *testing.T) {
	seen := map[api.Errno]bool{}
	for _, c := range samples.Broken() {
		e, _ := ir.Check(c)
		seen[e] = true
		holdRefused(t, c)
	}
	if len(seen) != 7 || seen[api.OK] { // of the signature four, of the sizes two, and of the code itself
		t.Errorf("ir.Check's errors were %v", seen)
	}
}

// TestIllFormed: FU1, what is at fault is refused also where it would not be at fault in another order, or with other loops.
func TestIllFormed(t *testing.T) {
	for _, text := range []string{
		"Grad D8; Mul D9 A8 B0; Number D0", "Out A8; Grad D8", "Loop; Mul D9 A8 B0; Next; Number D0", "Sum D0 A8; Loop; Grad D8; Next", "Loop; Grad D8; Number D0; Next", "Loop; Grad D8; Grad D12; Next", "Loop N1; Grad D8; Next",
		"Loop; Grad D8; Sum D0 A8; Next", "Loop; Grad D8", "Grad D8; Next", "Loop; Loop; Grad D8; Next; Next", "Load D4 N1; Loop; When A4; Grad D8; End; Next", "Load D4 N1; When A4; Loop; Grad D8; End; Next",
		"Load D4 N1; When A4; Grad D8; End; Out A8", "Load D4 N1; When A4; Loop; Grad D8; Next; End; Loop; Out A8; Next", "Load D4 N1; When A4; Loop; Next", "Loop; Load D0; Next", "Loop; Load D4 N1; Store A4 N1; Next", "Loop N3; Next", "Loop N-1; Next",
		"Loop D1; Next", "Loop; Next N1", "Loop A1; Grad D8; Next", "Loop; Grad D8; Next; End", "Number D0; Loop; Neg D1 A0; Next", "Loop; Grad D8 N1; Next", "Grad D8; Loop; Store A8 N3; Next", "Grad D8; Loop; Out A8 N1; Next",
	} {
		holdRefused(t, usual(text))
	}
	for _, spoil := range []func(c *api.Code){
		func(c *api.Code) { c.Regs = append(c.Regs, api.Type{}) }, func(c *api.Code) { c.Slots[9].Bits = 0xffc00000 }, func(c *api.Code) { c.Slots[6].Int = 1 << 31 },
		func(c *api.Code) { c.Slots[0].Int = 1 }, func(c *api.Code) { c.Sign[2].Len = 0 }, func(c *api.Code) { c.Regs[17].Param = 3 },
	} {
		c := usual("Grad D8; Out A8")
		spoil(&c)
		holdRefused(t, c)
	}
}

// TestTaken: FU1, Fuse takes just what is well formed: codes from all over, with a field changed, or two instructions in each other's place.
func TestTaken(t *testing.T) {
	g := &samples.Grower{Source: 6}
	taken, refused := 0, 0
	for n := range 8000 {
		c := g.Code(20)
		if n%2 == 0 {
			c = g.Looped(g.SingleCode(20))
		}
		if len(c.List) == 0 {
			continue
		}
		at := g.Below(len(c.List))
		if n%3 == 0 {
			other := g.Below(len(c.List))
			c.List[at], c.List[other] = c.List[other], c.List[at]
		} else {
			*samples.Field(&c.List[at], "DABCN?"[g.Below(6)]) += g.Below(5) - 2
		}
		if e, _ := ir.Check(c); e == api.OK {
			taken++
			hold(t, g, c)
		} else {
			refused++
			holdRefused(t, c)
		}
	}
	if taken < 1000 || refused < 1000 {
		t.Errorf("%d taken, %d refused", taken, refused)
	}
}
