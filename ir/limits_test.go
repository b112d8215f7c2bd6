package ir

import (
	"slices"
	"strconv"
	"strings"
	"testing"

	"lathe/api"
)

// several are parameters with names of their own.
func several(count, kind, length int) []api.Param {
	var list []api.Param
	for i := range count {
		list = append(list, api.Param{Name: "p" + strconv.Itoa(i), Kind: kind, Len: length})
	}
	return list
}

// TestSignatures: IR1, sign.Check's error is the first, whatever else there is.
func TestSignatures(t *testing.T) {
	twice := several(2, 1, 1)
	twice[1].Name = twice[0].Name
	for _, c := range []struct {
		list []api.Param
		e    api.Errno
	}{
		{nil, api.OK}, {several(1, 1, 1), api.OK}, {several(64, 1, 1024), api.OK}, {several(8, 2, 4096), api.OK},
		{several(65, 1, 1), errLong}, {several(1, 3, 1), errParam}, {several(1, 0, 1), errParam}, {several(1, 1, 0), errParam}, {several(1, 2, 4097), errParam},
		{[]api.Param{{Kind: 1, Len: 1}}, errParam}, {twice, errTwice}, {several(17, 1, 4096), errTotal}, {several(9, 2, 4096), errTotal},
	} {
		place := -1
		if c.e == api.OK {
			place = 0
		}
		holdCheck(t, api.Code{Sign: c.list}, c.e, place)
		if c.e == api.OK {
			continue
		}
		harms := harms()
		for _, h := range harms[1:] {
			bad := usual()
			h.do(&bad)
			bad.Sign = c.list
			holdCheck(t, bad, c.e, -1)
		}
	}
}

// A harm makes a code that is refused so.
type harm struct {
	do    func(*api.Code)
	e     api.Errno
	place int
}

// harms are some of each kind, in the order in which they are told.
func harms() []harm {
	return []harm{
		{func(c *api.Code) { c.Sign[2].Name = "w" }, errTwice, -1},
		{func(c *api.Code) { c.Regs = append(c.Regs, slices.Repeat(c.Regs[:1], maxRegs)...) }, errSize, -1},
		{func(c *api.Code) { c.List = append(c.List, slices.Repeat(read("Number D0"), maxCode+1)...) }, errSize, -1},
		{func(c *api.Code) { c.Slots = append(c.Slots, slices.Repeat(c.Slots[:1], maxSlots)...) }, errSlots, -1},
		{func(c *api.Code) { c.Regs = append(c.Regs, api.Type{Kind: 4}) }, errCode, -1},
		{func(c *api.Code) { c.Slots[6].Int = 1 }, errCode, -1},
		{func(c *api.Code) { c.List = append(read("Number D0; Number D9"), c.List...) }, errCode, 1},
	}
}

// TestOrder: IR1, of two faults the first is told.
func TestOrder(t *testing.T) {
	for at, first := range harms() {
		c := usual()
		first.do(&c)
		holdCheck(t, c, first.e, first.place)
		for _, second := range harms()[at+1:] {
			c = usual()
			second.do(&c)
			first.do(&c)
			holdCheck(t, c, first.e, first.place)
			c = usual()
			first.do(&c)
			second.do(&c)
			holdCheck(t, c, first.e, first.place)
		}
	}
	c := usual()
	for _, h := range slices.Backward(harms()) {
		h.do(&c)
		holdCheck(t, c, h.e, h.place)
	}
}

// TestFirstFault: IR1, of several instructions at fault the first one's place, whatever its fault is; a block that is open is told last.
func TestFirstFault(t *testing.T) {
	faults := []string{"? ", "Number D0 A1", "Number D9", "Number D2", "Whole D2 N-1", "Load D0 N7", "Grad D4 N1", "Loop N3", "End", "Next", "Number D0 =ffffffff", "Copy D4 A2"}
	for _, one := range faults {
		for _, other := range faults {
			holdRefused(t, 0, one+";"+other)
			holdRefused(t, 2, "Neg D0 A0; Neg D4 A4;"+one+";"+other)
			holdRefused(t, 2, "When A2; Neg D0 A0;"+strings.Replace(one, "End", "Next", 1)+";"+other)
			holdRefused(t, 3, "When A2; End; Loop N1;"+strings.Replace(one, "Next", "End", 1)+"; When A2;"+other+"; Loop")
			c := usual(read("Neg D0 A1;" + one + ";" + other)...)
			holdCheck(t, c, errCode, 0)
		}
	}
	holdRefused(t, 1, "When A2", "Loop", "Loop N2")
	holdRefused(t, 3, "When A2; When A2; End", "When A3; Loop; Next", "When A2; When A3; Loop N1")
}

// TestHowManyRegisters: IR1, MaxRegs registers and one more; the last one is there, the one behind it is not.
func TestHowManyRegisters(t *testing.T) {
	for _, count := range []int{maxRegs - 1, maxRegs} {
		c := api.Code{Regs: slices.Repeat([]api.Type{numberType()}, count)}
		holdCheck(t, c, api.OK, 0)
		c.List = read("Number D0; Number D" + strconv.Itoa(count-1) + "; Neg D0 A" + strconv.Itoa(count-1))
		holdCheck(t, c, api.OK, 0)
		c.List = read("Number D0; Number D" + strconv.Itoa(count))
		holdCheck(t, c, errCode, 1)
		c.List = read("Number D0; Neg D0 A" + strconv.Itoa(count))
		holdCheck(t, c, errCode, 1)
	}
	for _, count := range []int{maxRegs + 1, maxRegs + 2, 2 * maxRegs, 1 << 20} {
		holdCheck(t, api.Code{Regs: slices.Repeat([]api.Type{numberType()}, count)}, errSize, -1)
		holdCheck(t, api.Code{Regs: make([]api.Type, count)}, errSize, -1)
	}
}

// TestHowManyInstructions: IR1, MaxCode instructions and one more.
func TestHowManyInstructions(t *testing.T) {
	for _, count := range []int{maxCode - 1, maxCode} {
		c := usual(slices.Repeat(read("Number D0"), count)...)
		holdCheck(t, c, api.OK, 0)
		c.List[count-1] = read("Number D2")[0]
		holdCheck(t, c, errCode, count-1)
		c.List[count-1] = read("Loop")[0]
		holdCheck(t, c, errCode, count)
		c.List[0] = read("Neg D0 A0")[0]
		holdCheck(t, c, errCode, 0)
	}
	for _, count := range []int{maxCode + 1, maxCode + 2, 2 * maxCode, 1 << 20} {
		holdCheck(t, usual(slices.Repeat(read("Number D0"), count)...), errSize, -1)
		holdCheck(t, usual(make([]api.Inst, count)...), errSize, -1)
	}
}

// TestHowManySlots: IR1, MaxSlots slots and one more; the last one is there, the one behind it is not.
func TestHowManySlots(t *testing.T) {
	for _, count := range []int{maxSlots - 1, maxSlots} {
		c := usual()
		c.Slots = slices.Repeat([]api.Slot{{Type: numberType()}}, count)
		last := strconv.Itoa(count - 1)
		c.List = read("Load D0 N0; Load D1 N" + last + "; Store A0 N" + last)
		holdCheck(t, c, api.OK, 0)
		for _, text := range []string{"Load D0 N", "Store A0 N"} {
			c.List = read("Number D0;" + text + strconv.Itoa(count))
			holdCheck(t, c, errCode, 1)
		}
		c.Slots[count-1].Int = 1
		holdCheck(t, c, errCode, -1)
	}
	for _, count := range []int{maxSlots + 1, maxSlots + 2, 2 * maxSlots, 1 << 20} {
		holdCheck(t, api.Code{Slots: slices.Repeat([]api.Slot{{Type: numberType()}}, count)}, errSlots, -1)
		holdCheck(t, api.Code{Slots: make([]api.Slot, count)}, errSlots, -1)
	}
}

// TestTypes: IR1, which types registers and slots may have, over signatures of several sizes.
func TestTypes(t *testing.T) {
	odd := []int{minInt, -1 << 32, -2, -1, 0, 1, 2, 3, 4, 5, 63, 64, 256, 257, 259, 1 << 32, 1<<32 + 1, 1<<32 + 3, maxInt}
	for _, params := range []int{0, 1, 3, 64} {
		list := several(params, 2, 3)
		for _, kind := range odd {
			for _, param := range odd {
				mayBe := (kind == 1 || kind == 2) && param == 0 || kind == 3 && param >= 0 && param < params
				e, place := errCode, -1
				if mayBe {
					e, place = api.OK, 0
				}
				is := api.Type{Kind: kind, Param: param}
				holdCheck(t, api.Code{Sign: list, Regs: []api.Type{numberType(), is}}, e, place)
				holdCheck(t, api.Code{Sign: list, Regs: []api.Type{is, wholeType()}}, e, place)
				holdCheck(t, api.Code{Sign: list, Slots: []api.Slot{{Type: numberType()}, {Type: is}}}, e, place)
				holdCheck(t, api.Code{Sign: list, Slots: []api.Slot{{Type: is, Keep: true}, {Type: wholeType()}}}, e, place)
			}
		}
	}
}

// TestSlots: IR1, what slots may hold at the beginning.
func TestSlots(t *testing.T) {
	for _, n := range []int{minInt, -1 << 32, -1, 0, 1, 7, maxCount - 1, maxCount, maxCount + 1, 1 << 32, 1<<32 + 1, maxInt} {
		for _, a := range []api.F{0, 1, 0x3f800000, 0x80000000, 0x7f800000, nan, 0x7f800001, 0xffc00000} {
			for _, kept := range []bool{true, false} {
				told := a != 0x7f800001 && a != 0xffc00000
				holdSlot(t, api.Slot{Type: numberType(), Keep: kept, Int: n, Bits: a}, n == 0 && told)
				holdSlot(t, api.Slot{Type: vectorType(0), Keep: kept, Int: n, Bits: a}, n == 0 && told)
				holdSlot(t, api.Slot{Type: vectorType(1), Keep: kept, Int: n, Bits: a}, n == 0 && told)
				holdSlot(t, api.Slot{Type: wholeType(), Keep: kept, Int: n, Bits: a}, a == 0 && n >= 0 && n <= maxCount)
			}
		}
	}
}

// holdSlot: a slot may be, or may not, ahead of others and behind them, whether an instruction names it or not.
func holdSlot(t *testing.T, s api.Slot, mayBe bool) {
	t.Helper()
	e, place := errCode, -1
	if mayBe {
		e, place = api.OK, 0
	}
	c := usual()
	c.Slots = append(c.Slots, s)
	holdCheck(t, c, e, place)
	c.Slots = append([]api.Slot{s}, usual().Slots...)
	c.List = read("Number D0; Whole D2; Store A0 N1; Store A2 N2")
	holdCheck(t, c, e, place)
}
