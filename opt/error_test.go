package opt

import (
	"testing"

	"lathe/api"
	"lathe/ir"
	"lathe/samples"
)

// holdRefused: OP1 and rule 2, code that is not well formed has ErrCode with passes that are right, and ErrArg with passes that are wrong;
// nothing beside it.
func holdRefused(t *testing.T, c api.Code) {
	t.Helper()
	for choice := range subsets {
		if d, e := Run(c, choice); e != errCode || !isNothing(d) {
			t.Errorf("Run(.., %d) = %s, %d: %s", choice, samples.Show(d), e, samples.Show(c))
		}
	}
	for _, choice := range wrong() {
		if d, e := Run(c, choice); e != errArg || !isNothing(d) {
			t.Errorf("Run(.., %d) = %s, %d: %s", choice, samples.Show(d), e, samples.Show(c))
		}
	}
}

// TestRefused: OP1, whatever ir.Check's error is, it is ErrCode here.
func TestRefused(t *testing.T) {
	seen := map[api.Errno]bool{}
	for _, c := range samples.Broken() {
		e, _ := ir.Check(c)
		seen[e] = true
		holdRefused(t, c)
	}
	if len(seen) != 7 || seen[api.OK] { // of the signature four, of the sizes two, and of the code itself
		t.Errorf("ir.Check's errors were %v", seen)
	}
}

// TestIllFormed: OP1, what is at fault is refused also where a pass would take it away, or would not ask it.
func TestIllFormed(t *testing.T) {
	for _, text := range []string{
		"Whole D4; When A4; Neg D0 A1; End", "Whole D4; When A4; Out A8; End", "Number D0; Number D1; Add D2 A0 B3", "Grad D8; Copy D8 A9; Out A8", "Grad D8; Grad D9 N1; Out A8", "Neg D0 A1", "Store A4 N1",
		"Load D4 N1; When A4", "Load D4 N1; When A4; End; End", "Loop; Next; Loop", "Loop; Loop; Next; Next", "Loop; Number D0; Next", "Grad D8; Loop; Out A8; Sum D0 A8; Next", "Number D0 =7fc00001", "Number D18", "Out A18",
		"Load D4 N1; When A4; Number D0; End; Store A0", "Number D0; Whole D0", "?", "Next", "End",
	} {
		holdRefused(t, usual(text))
	}
	for _, spoil := range []func(c *api.Code){
		func(c *api.Code) { c.Regs[17] = api.Type{} }, func(c *api.Code) { c.Regs[0].Param = 1 }, func(c *api.Code) { c.Regs[17].Param = 3 },
		func(c *api.Code) { c.Slots[9].Bits = 0xffc00000 }, func(c *api.Code) { c.Slots[6].Int = 1 << 31 }, func(c *api.Code) { c.Slots[1].Bits = 1 },
		func(c *api.Code) { c.Sign[2].Len = 0 }, func(c *api.Code) { c.Sign[2].Name = "" }, func(c *api.Code) { c.Sign[2].Name = "w" }, func(c *api.Code) { c.Sign[0].Kind = 0 },
	} {
		c := usual("Grad D8; Out A8") // nothing hangs on what is at fault
		spoil(&c)
		holdRefused(t, c)
	}
}

// TestTaken: OP1, with each choice of the passes just what is well formed is taken: codes from all over, with a field changed, or two
// instructions in each other's place.
func TestTaken(t *testing.T) {
	g := &samples.Grower{Source: 6}
	taken, refused := 0, 0
	for n := range 2000 {
		c := g.SingleCode(40)
		if n%2 == 0 {
			c = g.Code(40)
		}
		if len(c.List) == 0 {
			continue
		}
		at := g.Below(len(c.List))
		if n%3 == 0 {
			other := g.Below(len(c.List))
			c.List[at], c.List[other] = c.List[other], c.List[at]
		} else {
			*samples.Field(&c.List[at], "DABCN?"[g.Below(6)]) += g.Below(5) - 2
		}
		if e, _ := ir.Check(c); e == api.OK {
			taken++
			hold(t, g, c, 2)
		} else {
			refused++
			holdRefused(t, c)
		}
	}
	if taken < 300 || refused < 300 {
		t.Errorf("%d taken, %d refused", taken, refused)
	}
}
