package alloc

import (
	"testing"

	"lathe/api"
	"lathe/ir"
	"lathe/samples"
)

// holdRefused: RA1, RA2 and rule 2, code that is not well formed has ErrCode from both calls, and nothing beside it.
func holdRefused(t *testing.T, c api.Code) {
	t.Helper()
	if d, e := Alloc(c); e != errCode || d.Sign != nil || d.Regs != nil || d.Slots != nil || d.List != nil {
		t.Errorf("Alloc = %s, %d: %s", samples.Show(d), e, samples.Show(c))
	}
	if n, w, v, e := Pressure(c); n != 0 || w != 0 || v != nil || e != errCode {
		t.Errorf("Pressure = %d, %d, %v, %d: %s", n, w, v, e, samples.Show(c))
	}
}

// TestRefused: RA1 and RA2, whatever ir.Check's error is, it is ErrCode here.
func TestRefused(t *testing.T) {
	seen := map[api.Errno]bool{}
	for _, c := range samples.Broken() {
		e, _ := ir.Check(c)
		seen[e] = true
		holdRefused(t, c)
	}
	if len(seen) != 7 || seen[api.OK] { // of the signature four, of the sizes two, and of the code itself
		t.Errorf("ir.Check's errors were %v", seen)
	}
}

// TestIllFormed: RA1 and RA2, what is at fault is refused also where fewer registers, slots or instructions would do.
func TestIllFormed(t *testing.T) {
	for _, text := range []string{
		"Out A8", "Number D0; Add D1 A0 B2", "Load D4 N1; When A4; Number D0; End; Store A0", "Load D4 N1; When A4", "End", "Loop; Grad D8", "Loop; Number D0; Next", "Loop; When A4; End; Next",
		"Load D4 N1; When A4; Loop; Grad D8; End; Next", "Loop; Load D0; Next", "Number D0; Loop; Neg D1 A0; Next", "Number D18", "Grad D8 N1", "Store A0 N1", "Number D0 =7fc00001", "Neg D1 A0; Number D0",
	} {
		holdRefused(t, usual(text))
	}
	for _, spoil := range []func(c *api.Code){
		func(c *api.Code) { c.Regs = append(c.Regs, api.Type{}) }, func(c *api.Code) { c.Slots[9].Bits = 0xffc00000 }, func(c *api.Code) { c.Slots[6].Int = 1 << 31 },
		func(c *api.Code) { c.Slots[0].Int = 1 }, func(c *api.Code) { c.Sign[2].Len = 0 }, func(c *api.Code) { c.Regs[17].Param = 3 },
		func(c *api.Code) { c.List = append(c.List, c.List[0], api.Inst{Op: 35}) },
	} {
		for _, count := range [][samples.Sorts]int{{3}, {60, 60, 60, 60, 60}} {
			c := samples.Straight(count, samples.AsTheyCame)
			c.Regs = append(c.Regs, usual("").Regs...)
			spoil(&c)
			holdRefused(t, c)
		}
	}
}

// TestTaken: RA1 and RA2, both calls take just what is well formed: codes from all over, with a field changed, or two instructions in each
// other's place.
func TestTaken(t *testing.T) {
	g := &samples.Grower{Source: 6}
	taken, refused := 0, 0
	for n := range 6000 {
		c := g.SingleCode(60)
		if n%2 == 0 {
			c = g.Merged(c, 1+g.Below(20))
		}
		if len(c.List) == 0 {
			continue
		}
		at := g.Below(len(c.List))
		if n%3 == 0 {
			other := g.Below(len(c.List))
			c.List[at], c.List[other] = c.List[other], c.List[at]
		} else {
			*samples.Field(&c.List[at], "DABCN?"[g.Below(6)]) += g.Below(5) - 2
		}
		if e, _ := ir.Check(c); e == api.OK {
			taken++
			hold(t, g, c)
			if pressureOf(c) == nil {
				t.Errorf("Pressure does not take %s", samples.Show(c))
			}
		} else {
			refused++
			holdRefused(t, c)
		}
	}
	if taken < 1000 || refused < 1000 {
		t.Errorf("%d taken, %d refused", taken, refused)
	}
}
