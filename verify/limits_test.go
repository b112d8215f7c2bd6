package verify

import (
	"slices"
	"strconv"
	"testing"

	"lathe/api"
)

// many are so many parameters.
func many(count, kind, length int) []api.Param {
	var list []api.Param
	for n := range count {
		list = append(list, api.Param{Name: "p" + strconv.Itoa(n), Kind: kind, Len: length})
	}
	return list
}

// holdTold: VE1 to VE3 of code at a limit; of so many instructions some are weighed.
func holdTold(t *testing.T, c api.Code, cost, room int, e api.Errno) {
	t.Helper()
	holdTaken(t, c, cost, room, e)
	for _, place := range []int{0, 1, len(c.List) / 3, len(c.List) / 2, len(c.List) - 2, len(c.List) - 1} {
		if 0 <= place && place < len(c.List) {
			holdWeigh(t, c, place, wantWeigh(c, c.List[place]), api.OK)
		}
	}
	holdWeigh(t, c, len(c.List), 0, errArg)
	if cost != wantCost(c) || cost > maxLen*len(c.List) || room != wantRoom(c) {
		t.Errorf("the test is wrong: it costs %d in a room of %d", wantCost(c), wantRoom(c))
	}
}

// holding is code over one parameter of each of these lengths, with so many registers and slots of each.
func holding(kind int, lengths []int, regs, slots []int) api.Code {
	c := api.Code{}
	for param, length := range lengths {
		c.Sign = append(c.Sign, api.Param{Name: "p" + strconv.Itoa(param), Kind: kind, Len: length})
		is := api.Type{Kind: 3, Param: param}
		c.Regs = append(c.Regs, slices.Repeat([]api.Type{is}, regs[param])...)
		c.Slots = append(c.Slots, slices.Repeat([]api.Slot{{Type: is, Keep: param%2 == 0}}, slots[param])...)
	}
	return c
}

// TestMostRoom: VE2, rooms of 2^24 are taken and greater ones are not, whatever they are made of.
func TestMostRoom(t *testing.T) {
	for kind := 1; kind <= 2; kind++ {
		for _, c := range []api.Code{
			holding(kind, []int{4096}, []int{4096}, []int{0}),
			holding(kind, []int{4096}, []int{0}, []int{4096}),
			holding(kind, []int{4096}, []int{2048}, []int{2048}),
			holding(kind, []int{4096}, []int{1}, []int{4095}),
			holding(kind, []int{4096}, []int{4095}, []int{1}),
			holding(kind, []int{1024}, []int{1 << 14}, []int{0}),
			holding(kind, []int{1024}, []int{1<<14 - 100}, []int{100}),
			holding(kind, []int{4096, 1, 2048}, []int{3000, 2048, 1000}, []int{500, 2048, 190}),
			holding(kind, []int{4095, 4094, 1}, []int{4000, 90, 2}, []int{0, 2, 4086}),
		} {
			left := mostRoom - wantRoom(c)
			if left < 0 || left > 200000 {
				t.Fatalf("the test is wrong: %d", left)
			}
			for left > 0 { // what is missing is made up by registers
				length := min(left, 1<<11)
				c.Sign = append(c.Sign, api.Param{Name: "q" + strconv.Itoa(left), Kind: 1, Len: length})
				c.Regs = append(c.Regs, api.Type{Kind: 3, Param: len(c.Sign) - 1})
				left -= length
			}
			holdTold(t, c, 0, mostRoom, api.OK)
			holdEdge(t, c)
		}
	}
}

// holdEdge: VE2, of code whose room is 2^24: one more of each type is too much, be it a register or a slot; one less is not.
func holdEdge(t *testing.T, c api.Code) {
	t.Helper()
	for _, is := range []api.Type{{Kind: 1}, {Kind: 2}, {Kind: 3}} {
		width := wantWidth(is, c.Sign)
		d := c
		if d.Regs = append(slices.Clone(c.Regs), is); len(d.Regs) <= maxRegs {
			holdTold(t, d, 0, mostRoom+width, errRoom)
		} else {
			holdRefused(t, d, errSize)
		}
		d = c
		if d.Slots = append(slices.Clone(c.Slots), api.Slot{Type: is}); len(d.Slots) <= maxSlots {
			holdTold(t, d, 0, mostRoom+width, errRoom)
		} else {
			holdRefused(t, d, errSlots)
		}
	}
	less := c
	if len(c.Regs) > 0 {
		less.Regs = c.Regs[1:]
		holdTold(t, less, 0, mostRoom-wantWidth(c.Regs[0], c.Sign), api.OK)
		less.Regs = append([]api.Type{{Kind: 2}}, c.Regs[1:]...)
	} else {
		less.Slots = append([]api.Slot{{Type: api.Type{Kind: 2}}}, c.Slots[1:]...)
	}
	holdTold(t, less, 0, mostRoom-firstWidth(c)+1, api.OK)
}

// firstWidth is the width of the first register, or of the first slot if there is none.
func firstWidth(c api.Code) int {
	if len(c.Regs) > 0 {
		return wantWidth(c.Regs[0], c.Sign)
	}
	return wantWidth(c.Slots[0].Type, c.Sign)
}

// TestOneMore: VE2, rooms of 2^24 - 1, 2^24 and 2^24 + 1, with registers and slots that hold one alone at the edge.
func TestOneMore(t *testing.T) {
	c := holding(1, []int{4096}, []int{4095}, []int{0})
	c.Regs = append(c.Regs, slices.Repeat([]api.Type{{Kind: 1}, {Kind: 2}}, 2000)...)
	c.Slots = slices.Repeat([]api.Slot{{Type: api.Type{Kind: 2}, Int: maxCount}}, 95)
	for more := range 3 {
		holdTold(t, c, 0, mostRoom-1+more, []api.Errno{api.OK, api.OK, errRoom}[more])
		c.Slots = append(c.Slots, api.Slot{Type: api.Type{Kind: 1 + more%2}, Keep: true})
	}
	c = holding(2, []int{4096, 4095, 1}, []int{4095, 1, 0}, []int{0, 0, 0}) // complex: an element counts once
	for more := range 3 {
		holdTold(t, c, 0, mostRoom-1+more, []api.Errno{api.OK, api.OK, errRoom}[more])
		c.Regs = append(c.Regs, api.Type{Kind: 3, Param: 2})
	}
}

// TestGreatestRoom: VE1 and VE2, as much as registers and slots can have; as many of them of little width are taken.
func TestGreatestRoom(t *testing.T) {
	holdTold(t, holding(1, []int{4096}, []int{maxRegs}, []int{maxSlots}), 0, (maxRegs+maxSlots)*maxLen, errRoom)
	holdTold(t, holding(1, []int{4096}, []int{maxRegs}, []int{0}), 0, maxRegs*maxLen, errRoom)
	holdTold(t, holding(1, []int{1}, []int{maxRegs}, []int{maxSlots}), 0, maxRegs+maxSlots, api.OK)
	c := api.Code{Regs: slices.Repeat([]api.Type{{Kind: 1}, {Kind: 2}}, maxRegs/2), Slots: slices.Repeat([]api.Slot{{Type: api.Type{Kind: 2}}}, maxSlots)}
	holdTold(t, c, 0, maxRegs+maxSlots, api.OK)
	for _, c := range []api.Code{holding(1, []int{4096}, []int{maxRegs + 1}, []int{maxSlots}), holding(1, []int{4096}, []int{maxRegs + 1}, []int{maxSlots + 1})} {
		holdRefused(t, c, errSize)
	}
	holdRefused(t, holding(1, []int{4096}, []int{maxRegs}, []int{maxSlots + 1}), errSlots)
}

// long is code of as many instructions as may be, over one parameter, of these over and over, behind those that set what they read.
func long(length int, text string) api.Code {
	c := api.Code{Sign: many(1, 1, length), Regs: []api.Type{{Kind: 3}, {Kind: 3}, {Kind: 1}, {Kind: 2}}, Slots: []api.Slot{{Type: api.Type{Kind: 3}, Keep: true}}}
	c.List = read("Grad D0; Grad D1; Number D2 =3f800000; Whole D3 N2147483647")
	again := read(text)
	for n := 0; len(c.List) < maxCode; n++ {
		c.List = append(c.List, again[n%len(again)])
	}
	return c
}

// TestMostCost: VE1 to VE3, as much as instructions can cost; MaxCost is more, so that no code can have ErrCost.
func TestMostCost(t *testing.T) {
	for _, text := range []string{"Grad D0", "Param D0", "Neg D0 A0", "Select D0 A0 B1 C2", "Load D0", "Store A0", "Out A1", "Sum D2 A0", "Least D2 A1", "Mul D0 A1 B2; Out A0; Sum D2 A0; Copy D1 A2; Load D0"} {
		holdTold(t, long(maxLen, text), 2*maxLen+2+(maxCode-4)*maxLen, 2*maxLen+2+maxLen, api.OK)
		holdTold(t, long(1, text), maxCode, 5, api.OK)
		holdTold(t, long(61, text), 2*61+2+(maxCode-4)*61, 3*61+2, api.OK)
	}
	for _, length := range []int{1, maxLen} {
		holdTold(t, long(length, "Power D2 A2 B3"), 2*length+2+(maxCode-4)*62, 3*length+2, api.OK)
		holdTold(t, long(length, "When A3; End"), 2*length+2+maxCode-4, 3*length+2, api.OK)
		holdTold(t, long(length, "Loop; Next"), 2*length+2+maxCode-4, 3*length+2, api.OK)
		holdTold(t, long(length, "Loop; Neg D0 A0; Next; Number D2"), 2*length+2+(maxCode-4)/4*(3+length), 3*length+2, api.OK)
	}
	c := long(maxLen, "Grad D0")
	c.List[2], c.List[3] = c.List[0], c.List[0]
	holdTold(t, c, maxCode*maxLen, 3*maxLen+2, api.OK)
	if maxCode*maxLen > mostCost {
		t.Error("there is code that costs too much")
	}
	c.List = append(c.List, c.List[0])
	holdRefused(t, c, errSize)
}

// TestCostAndRoom: VE2, code that costs as much as can be, in rooms at the edge and far beyond.
func TestCostAndRoom(t *testing.T) {
	for _, x := range []struct {
		regs, slots int
		e           api.Errno
	}{{4096, 0, api.OK}, {1, 4095, api.OK}, {2048, 2048, api.OK}, {4097, 0, errRoom}, {4096, 1, errRoom}, {maxRegs, maxSlots, errRoom}} {
		c := holding(1, []int{4096}, []int{x.regs}, []int{x.slots})
		c.List = slices.Repeat(read("Grad D0"), maxCode)
		holdTold(t, c, maxCode*maxLen, (x.regs+x.slots)*maxLen, x.e)
	}
}

// TestJudge: VE2, each limit and one beyond it, also of costs that no code has; where both are too much, ErrRoom is named first.
func TestJudge(t *testing.T) {
	for _, room := range []int{0, 1, 46, mostRoom - 1, mostRoom, mostRoom + 1, 1 << 25, (maxRegs + maxSlots) * maxLen, mostCost, maxInt} {
		for _, cost := range []int{0, 1, 12, mostRoom + 1, maxCode * maxLen, maxCount, maxCount + 1, 1<<32 - 1, mostCost, mostCost + 1, mostCost + 2, 1 << 33, maxInt} {
			want := api.OK
			if cost > mostCost {
				want = errCost
			}
			if room > mostRoom {
				want = errRoom
			}
			if e := judge(room, cost); e != want {
				t.Errorf("judge(%d, %d) = %d, want %d", room, cost, e, want)
			}
		}
	}
}

// TestFirstError: VE2, code that is not well formed has ir.Check's error, also if its room or its cost is too great besides.
func TestFirstError(t *testing.T) {
	for _, x := range []struct {
		spoil func(c *api.Code)
		e     api.Errno
	}{
		{func(c *api.Code) { c.List[5].D = -1 }, errCode},
		{func(c *api.Code) { c.List[maxCode-1] = api.Inst{Op: 36} }, errCode},
		{func(c *api.Code) { c.Regs[4999].Param = 1 }, errCode},
		{func(c *api.Code) { c.Slots[9].Bits = 0xffc00000 }, errCode},
		{func(c *api.Code) { c.List = append(c.List, c.List[0]) }, errSize},
		{func(c *api.Code) { c.Regs = slices.Repeat(c.Regs, 4) }, errSize},
		{func(c *api.Code) { c.Slots = slices.Repeat(c.Slots, 5000) }, errSlots},
		{func(c *api.Code) { c.Sign = slices.Repeat(c.Sign, 65) }, errLong},
		{func(c *api.Code) { c.Sign[0].Len++ }, errParam},
		{func(c *api.Code) { c.Sign = append(c.Sign, c.Sign[0]) }, errTwice},
		{func(c *api.Code) { c.Sign = many(17, 1, 4096) }, errTotal},
	} {
		c := holding(1, []int{4096}, []int{5000}, []int{10})
		c.List = slices.Repeat(read("Grad D0"), maxCode)
		holdTold(t, c, maxCode*maxLen, 5010*maxLen, errRoom)
		x.spoil(&c)
		holdRefused(t, c, x.e)
	}
}
