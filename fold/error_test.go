package fold

import (
	"testing"

	"lathe/api"
	"lathe/ir"
	"lathe/samples"
)

// holdRefused: FO1 and rule 2, code that is not well formed has ErrCode, and no code beside it.
func holdRefused(t *testing.T, c api.Code) {
	t.Helper()
	if d, e := Fold(c); e != errCode || d.Sign != nil || d.Regs != nil || d.Slots != nil || d.List != nil {
		t.Errorf("Fold = %s, %d: %s", samples.Show(d), e, samples.Show(c))
	}
}

// TestRefused: FO1, whatever ir.Check's error is, it is ErrCode here; also where folding would take away what is at fault.
func TestRefused(t *testing.T) {
	seen := map[api.Errno]bool{}
	for _, c := range samples.Broken() {
		e, _ := ir.Check(c)
		seen[e] = true
		holdRefused(t, c)
	}
	if len(seen) != 7 || seen[api.OK] { // of the signature four, of the sizes two, and of the code itself
		t.Errorf("ir.Check's errors were %v", seen)
	}
}

// TestTaken: FO1, Fold takes just what is well formed: codes from all over, with a field changed.
func TestTaken(t *testing.T) {
	g := &samples.Grower{Source: 6}
	taken, refused := 0, 0
	for range 8000 {
		c := rich(g, g.Code(20))
		if len(c.List) == 0 {
			continue
		}
		i := &c.List[g.Below(len(c.List))]
		*samples.Field(i, "DABCN?"[g.Below(6)]) += g.Below(5) - 2
		if e, _ := ir.Check(c); e == api.OK {
			taken++
			hold(t, g, c)
		} else {
			refused++
			holdRefused(t, c)
		}
	}
	if taken < 1000 || refused < 1000 {
		t.Errorf("%d taken, %d refused", taken, refused)
	}
}
