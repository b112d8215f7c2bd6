package verify

import (
	"slices"
	"testing"

	"lathe/api"
	"lathe/ir"
	"lathe/samples"
)

// TestRefused: VE1 and VE2, code that is not well formed has ir.Check's error from each call, whichever it is, at every place.
func TestRefused(t *testing.T) {
	seen := map[api.Errno]bool{}
	for _, c := range samples.Broken() {
		e, _ := ir.Check(c)
		seen[e] = true
		holdRefused(t, c, e)
	}
	for _, e := range []api.Errno{errLong, errParam, errTwice, errTotal, errSize, errSlots, errCode} {
		if !seen[e] {
			t.Errorf("no code has the error %d", e)
		}
	}
	if len(seen) != 7 {
		t.Errorf("%v", seen)
	}
}

// TestEachError: VE1 and VE2, each error by hand.
func TestEachError(t *testing.T) {
	for _, x := range []struct {
		spoil func(c *api.Code)
		e     api.Errno
	}{
		{func(c *api.Code) { c.Sign = slices.Repeat(c.Sign, 22) }, errLong},
		{func(c *api.Code) { c.Sign[1].Len = maxLen + 1 }, errParam},
		{func(c *api.Code) { c.Sign[1].Len = 0 }, errParam},
		{func(c *api.Code) { c.Sign[1].Len = minInt }, errParam},
		{func(c *api.Code) { c.Sign[2].Kind = 0 }, errParam},
		{func(c *api.Code) { c.Sign[2].Name = "" }, errParam},
		{func(c *api.Code) { c.Sign[2].Name = "w" }, errTwice},
		{func(c *api.Code) { c.Sign = append(c.Sign, many(16, 2, maxLen)...) }, errTotal},
		{func(c *api.Code) { c.Regs = append(c.Regs, make([]api.Type, maxRegs)...) }, errSize},
		{func(c *api.Code) { c.List = append(c.List, make([]api.Inst, maxCode)...) }, errSize},
		{func(c *api.Code) { c.Slots = append(c.Slots, make([]api.Slot, maxSlots)...) }, errSlots},
		{func(c *api.Code) { c.Regs[3].Kind = 0 }, errCode},
		{func(c *api.Code) { c.Regs[8].Param = 3 }, errCode},
		{func(c *api.Code) { c.Regs[17].Param = -1 }, errCode},
		{func(c *api.Code) { c.Slots[7].Type.Param = maxInt }, errCode},
		{func(c *api.Code) { c.Slots[6].Int = maxCount + 1 }, errCode},
		{func(c *api.Code) { c.List[0].Op = 38 }, errCode},
		{func(c *api.Code) { c.List[0].D = 18 }, errCode},
		{func(c *api.Code) { c.List[1].D = -1 }, errCode},
		{func(c *api.Code) { c.List[0].N = 5 }, errCode},
		{func(c *api.Code) { c.List = c.List[1:] }, errCode},
		{func(c *api.Code) { c.List = append(c.List, read("Loop")...) }, errCode},
		{func(c *api.Code) { c.List = append(c.List, read("End")...) }, errCode},
	} {
		c := usual("Load D8 N2; Neg D9 A8; Out A9")
		x.spoil(&c)
		holdRefused(t, c, x.e)
	}
}

// TestFewParameters: VE1, over a signature without parameters, or with few, the parameter of a register, of a slot or of a loop may be
// missing.
func TestFewParameters(t *testing.T) {
	for param := -2; param < 6; param++ {
		for params := range 4 {
			vector := api.Type{Kind: 3, Param: param}
			e := errCode
			if 0 <= param && param < params {
				e = api.OK
			}
			for _, c := range []api.Code{
				{Regs: []api.Type{vector}}, {Slots: []api.Slot{{Type: vector}}}, {Regs: []api.Type{vector}, List: read("Grad")}, {List: []api.Inst{{Op: 36, N: param}, {Op: 37}}},
			} {
				c.Sign = usual("").Sign[:params]
				if f := Check(c); f != e {
					t.Errorf("Check = %d, want %d: %s", f, e, samples.Show(c))
				}
				hold(t, c)
			}
		}
	}
}

// TestSpoilt: VE1 and VE2, codes from all over with a field changed, or two instructions in each other's place.
func TestSpoilt(t *testing.T) {
	g := &samples.Grower{Source: 31}
	taken, refused := 0, 0
	for n := range 10000 {
		c := g.Code(30)
		if len(c.List) == 0 {
			continue
		}
		at, other := g.Below(len(c.List)), g.Below(len(c.List))
		if n%3 == 0 {
			c.List[at], c.List[other] = c.List[other], c.List[at]
		} else {
			*samples.Field(&c.List[at], "DABCN?"[g.Below(6)]) += g.Below(5) - 2
		}
		if hold(t, c) {
			taken++
		} else {
			refused++
		}
	}
	if min(taken, refused) < 1500 {
		t.Errorf("%d taken, %d refused", taken, refused)
	}
}
