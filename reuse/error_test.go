package reuse

import (
	"testing"

	"lathe/api"
	"lathe/ir"
	"lathe/samples"
)

// holdRefused: RE1 and rule 2, code that is not well formed has ErrCode, and no code beside it.
func holdRefused(t *testing.T, c api.Code) {
	t.Helper()
	if d, e := Reuse(c); e != errCode || d.Sign != nil || d.Regs != nil || d.Slots != nil || d.List != nil {
		t.Errorf("Reuse = %s, %d: %s", samples.Show(d), e, samples.Show(c))
	}
}

// TestRefused: RE1, whatever ir.Check's error is, it is ErrCode here.
func TestRefused(t *testing.T) {
	seen := map[api.Errno]bool{}
	for _, c := range samples.Broken() {
		e, _ := ir.Check(c)
		seen[e] = true
		holdRefused(t, c)
	}
	if len(seen) != 7 || seen[api.OK] { // of the signature four, of the sizes two, and of the code itself
		t.Errorf("ir.Check's errors were %v", seen)
	}
}

// TestIllFormed: RE1, what is at fault is refused also where a copy or a twin would take it away.
func TestIllFormed(t *testing.T) {
	for _, text := range []string{
		"Copy D1 A0", "Load D0; Copy D4 A0", "Load D0; Copy D1 A0 B1", "Load D0; Copy D1 A0 N1", "Grad D8; Copy D12 A8", "Grad D8; Copy D0 A8", "Grad D8; Copy D9 A8; Copy D16 A9",
		"Load D4 N1; When A4; Grad D8; End; Copy D9 A8", "Load D4 N1; When A4; Grad D8; Copy D9 A8; End; Out A9", "Load D4 N1; When A4; Grad D8; End; Neg D9 A8; Grad D8",
		"Grad D8; Grad D9 N1", "Grad D8; Grad D108", "Grad D8; Grad D9 A1", "Number D0; Number D1 =7fc00001", "Whole D4; Whole D5 N2147483648", "Loop; Grad D8; Number D0; Next",
		"Load D4 N1; Load D5 N1; Copy D6 A4; When A6; Store A5 N1", "Grad D8; Copy D9 A8; Out A9 N1", "Out A8; Grad D8", "Loop N1; Grad D8; Copy D9 A8; Next",
	} {
		holdRefused(t, wide(text))
	}
}

// TestTaken: RE1, Reuse takes just what is well formed: codes from all over, with a field changed.
func TestTaken(t *testing.T) {
	g := &samples.Grower{Source: 6}
	taken, refused := 0, 0
	for n := range 8000 {
		c := g.Code(20)
		if n%2 == 0 {
			c = g.SingleCode(20)
		}
		c = thick(g, c)
		if len(c.List) == 0 {
			continue
		}
		i := &c.List[g.Below(len(c.List))]
		*samples.Field(i, "DABCN?"[g.Below(6)]) += g.Below(5) - 2
		if e, _ := ir.Check(c); e == api.OK {
			taken++
			hold(t, g, c)
		} else {
			refused++
			holdRefused(t, c)
		}
	}
	if taken < 1000 || refused < 1000 {
		t.Errorf("%d taken, %d refused", taken, refused)
	}
}
