package code

import (
	"strings"
	"testing"

	"lathe/api"
	"lathe/ir"
	"lathe/samples"
)

// holdNoBytes: CO1 and rule 2, Encode tells ir.Check's error, and nothing beside it.
func holdNoBytes(t *testing.T, c api.Code, want api.Errno) {
	t.Helper()
	if b, e := Encode(c); e != want || b != "" {
		t.Errorf("Encode = %s, %d, want %d: %s", short(b), e, want, samples.Show(c))
	}
}

// TestRefused: CO1, code that is not well formed has ir.Check's own error, whichever it is.
func TestRefused(t *testing.T) {
	seen := map[api.Errno]bool{}
	for _, c := range samples.Broken() {
		e, _ := ir.Check(c)
		seen[e] = true
		holdNoBytes(t, c, e)
	}
	for _, e := range []api.Errno{errLong, errParam, errTwice, errTotal, errSize, errSlots, errCode} {
		if !seen[e] {
			t.Errorf("no code has the error %d", e)
		}
	}
	if seen[api.OK] {
		t.Error("one is well formed")
	}
}

// TestErrorsByHand: CO1, one of each error, and of several the one that ir.Check tells first.
func TestErrorsByHand(t *testing.T) {
	w := api.Param{Name: "w", Kind: 1, Len: 1}
	holdNoBytes(t, api.Code{Sign: make([]api.Param, maxParams+1)}, errLong)
	holdNoBytes(t, api.Code{Sign: []api.Param{{Name: "w", Kind: 3, Len: 1}}}, errParam)
	holdNoBytes(t, api.Code{Sign: []api.Param{{Name: "w ", Kind: 1, Len: 1}}}, errParam)
	holdNoBytes(t, api.Code{Sign: []api.Param{{Name: nameOf(maxName+1, 0), Kind: 1, Len: 1}}}, errParam)
	holdNoBytes(t, api.Code{Sign: []api.Param{w, w}}, errTwice)
	holdNoBytes(t, api.Code{Regs: make([]api.Type, maxRegs+1)}, errSize)
	holdNoBytes(t, api.Code{List: make([]api.Inst, maxCode+1)}, errSize)
	holdNoBytes(t, api.Code{Slots: make([]api.Slot, maxSlots+1)}, errSlots)
	holdNoBytes(t, api.Code{Regs: make([]api.Type, 1)}, errCode)
	holdNoBytes(t, api.Code{List: samples.Read("End")}, errCode)
	holdNoBytes(t, api.Code{Sign: []api.Param{w, w}, Regs: make([]api.Type, maxRegs+1), Slots: make([]api.Slot, maxSlots+1)}, errTwice)
	holdNoBytes(t, api.Code{Regs: make([]api.Type, maxRegs+1), Slots: make([]api.Slot, maxSlots+1)}, errSize)
}

// TestFieldsNotNamed: CO1 and CO3, a field that a row does not name is not left out: code in which it is not 0 is refused.
func TestFieldsNotNamed(t *testing.T) {
	c := samples.EveryOp()
	for at, i := range c.List {
		for _, letter := range []byte("DABCN=") {
			if strings.Contains(named[i.Op-1], string(letter)) {
				continue
			}
			d := samples.CloneCode(c)
			if field := samples.Field(&d.List[at], letter); field != nil {
				*field = 1
			} else {
				d.List[at].Bits = api.One
			}
			holdNoBytes(t, d, errCode)
		}
	}
	for _, spoil := range []func(c *api.Code){
		func(c *api.Code) { c.Regs[0].Param = 1 }, func(c *api.Code) { c.Regs[4].Param = 1 }, func(c *api.Code) { c.Slots[0].Int = 1 }, func(c *api.Code) { c.Slots[1].Bits = 1 },
		func(c *api.Code) { c.Slots[2].Int = 1 }, func(c *api.Code) { c.Slots[1].Type.Param = 2 },
	} {
		d := samples.CloneCode(c)
		spoil(&d)
		holdNoBytes(t, d, errCode)
	}
}

// TestSpoilt: CO1, codes from all over with a field changed: bytes just of those that are well formed.
func TestSpoilt(t *testing.T) {
	g := &samples.Grower{Source: 9}
	taken, refused := 0, 0
	for range 10000 {
		c := g.Code(30)
		if len(c.List) == 0 {
			continue
		}
		*samples.Field(&c.List[g.Below(len(c.List))], "DABCN?"[g.Below(6)]) += g.Below(5) - 2
		if e, _ := ir.Check(c); e != api.OK {
			refused++
			holdNoBytes(t, c, e)
		} else {
			taken++
			holdTaken(t, wantBytes(c), c)
		}
	}
	if min(taken, refused) < 1000 {
		t.Errorf("%d taken, %d refused", taken, refused)
	}
}
