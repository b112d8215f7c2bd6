package fold

import (
	"slices"
	"strconv"
	"testing"

	"lathe/api"
	"lathe/ir"
	"lathe/samples"
)

// holdRefused: FO1 and rule 2, code that is not well formed has ErrCode, and no code beside it.
func holdRefused(t *testing.T, c api.Code) {
	t.Helper()
	if d, e := Fold(c); e != errCode || d.Sign != nil || d.Regs != nil || d.Slots != nil || d.List != nil {
		t.Errorf("Fold = %s, %d: %s", samples.Show(d), e, samples.Show(c))
	}
}

// several are parameters with names of their own.
func several(count, length int) []api.Param {
	var list []api.Param
	for i := range count {
		list = append(list, api.Param{Name: "p" + strconv.Itoa(i), Kind: 1, Len: length})
	}
	return list
}

// TestRefused: FO1, whatever ir.Check's error is, it is ErrCode here.
func TestRefused(t *testing.T) {
	seen := map[api.Errno]bool{}
	for _, do := range []func(c *api.Code){
		func(c *api.Code) { c.Sign = append(c.Sign, several(62, 1)...) },
		func(c *api.Code) { c.Sign[0].Kind = 3 },
		func(c *api.Code) { c.Sign[1].Len = 0 },
		func(c *api.Code) { c.Sign[1].Name = c.Sign[2].Name },
		func(c *api.Code) { c.Sign = append(c.Sign, several(16, 4096)...) },
		func(c *api.Code) { c.Regs = append(c.Regs, slices.Repeat(c.Regs[:1], maxRegs)...) },
		func(c *api.Code) { c.List = append(c.List, slices.Repeat(read("Number D0"), maxCode)...) },
		func(c *api.Code) { c.Slots = append(c.Slots, slices.Repeat(c.Slots[:1], maxSlots)...) },
		func(c *api.Code) { c.Regs = append(c.Regs, api.Type{Kind: 4}) },
		func(c *api.Code) { c.Regs[0].Param = 1 },
		func(c *api.Code) { c.Slots[0].Bits = 0x7f800001 },
		func(c *api.Code) { c.Slots[1].Int = -1 },
		func(c *api.Code) { c.List = append(c.List, api.Inst{}) },
		func(c *api.Code) { c.List = append(c.List, api.Inst{Op: 38}) },
	} {
		c := usual("Number D0")
		do(&c)
		e, _ := ir.Check(c)
		seen[e] = true
		holdRefused(t, c)
	}
	if len(seen) != 7 || seen[api.OK] { // of the signature four, of the sizes two, and of the code itself
		t.Errorf("ir.Check's errors were %v", seen)
	}
}

// TestIllFormed: FO1, instructions that are at fault, wherever they stand, also where folding would take them away.
func TestIllFormed(t *testing.T) {
	for _, text := range []string{
		"?", "Number D4", "Number D18", "Number D0 =7fffffff", "Whole D4 N-1", "Whole D4 N2147483648", "Neg D0 A1", "Add D8 A8 B8", "Grad D8 N1", "Load D0 N10", "Load D0 N1",
		"End", "Next", "When A5", "When A4; End; End", "Loop", "Loop N3; Next", "Loop; Number D0; Next", "Loop; When A4; End; Next", "When A4; Number D0; End; Neg D1 A0",
		"When A4; Loop; End; Next", "Store A0", "Out A8", "Test D4 A4", "Number D0 A1", "Choose D5 A4 B4 C6", "Number D0; Mul D0 A0 B1", "Number D0; Add D0 A0 B0 C1",
	} {
		c := usual("Whole D4;" + text)
		holdRefused(t, c)
		c = usual("Whole D4; When A4;" + text + "; End")
		holdRefused(t, c)
	}
	holdRefused(t, usual("Whole D4; When A4"))
	holdRefused(t, usual("Whole D4; When A4; When A4; End"))
}

// TestTaken: FO1, Fold takes just what is well formed: codes from all over, with a field changed.
func TestTaken(t *testing.T) {
	g := &samples.Grower{Source: 6}
	taken, refused := 0, 0
	for range 8000 {
		c := rich(g, g.Code(20))
		if len(c.List) == 0 {
			continue
		}
		i := &c.List[g.Below(len(c.List))]
		*samples.Field(i, "DABCN?"[g.Below(6)]) += g.Below(5) - 2
		if e, _ := ir.Check(c); e == api.OK {
			taken++
			hold(t, g, c)
		} else {
			refused++
			holdRefused(t, c)
		}
	}
	if taken < 1000 || refused < 1000 {
		t.Errorf("%d taken, %d refused", taken, refused)
	}
}
