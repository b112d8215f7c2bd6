package samples

import (
	"slices"
	"strconv"

	"lathe/api"
)

// Broken are codes that are not well formed, each for another reason: all of ir.Check's errors are among them.
func Broken() []api.Code {
	var list []api.Code
	for _, spoil := range []func(c *api.Code){
		func(c *api.Code) { c.Sign = append(c.Sign, several(62, 1)...) },
		func(c *api.Code) { c.Sign[0].Kind = 3 },
		func(c *api.Code) { c.Sign[1].Len = 0 },
		func(c *api.Code) { c.Sign[1].Name = c.Sign[2].Name },
		func(c *api.Code) { c.Sign = append(c.Sign, several(16, 4096)...) },
		func(c *api.Code) { c.Regs = append(c.Regs, slices.Repeat(c.Regs[:1], 1<<14)...) },
		func(c *api.Code) { c.List = append(c.List, slices.Repeat(Read("Number D0"), 1<<15)...) },
		func(c *api.Code) { c.Slots = append(c.Slots, slices.Repeat(c.Slots[:1], 1<<12)...) },
		func(c *api.Code) { c.Regs = append(c.Regs, api.Type{Kind: 4}) },
		func(c *api.Code) { c.Regs[0].Param = 1 },
		func(c *api.Code) { c.Slots[0].Bits = 0x7f800001 },
		func(c *api.Code) { c.Slots[1].Int = -1 },
		func(c *api.Code) { c.List = append(c.List, api.Inst{}) },
		func(c *api.Code) { c.List = append(c.List, api.Inst{Op: 38}) },
	} {
		c := Usual("Number D0")
		spoil(&c)
		list = append(list, c)
	}
	for _, text := range faults() {
		list = append(list, Usual("Whole D4;"+text), Usual("Whole D4; When A4;"+text+"; End"))
	}
	return append(list, Usual("Whole D4; When A4"), Usual("Whole D4; When A4; When A4; End"))
}

// faults are instructions of the usual code that are at fault behind one that sets the register 4 alone, in a block and in none.
func faults() []string {
	return []string{
		"?", "Number D4", "Number D18", "Number D0 =7fffffff", "Whole D4 N-1", "Whole D4 N2147483648", "Neg D0 A1", "Add D8 A8 B8", "Grad D8 N1", "Load D0 N10", "Load D0 N1",
		"End", "Next", "When A5", "When A4; End; End", "Loop", "Loop N3; Next", "Loop; Number D0; Next", "Loop; When A4; End; Next", "When A4; Number D0; End; Neg D1 A0",
		"When A4; Loop; End; Next", "Store A0", "Out A8", "Test D4 A4", "Number D0 A1", "Choose D5 A4 B4 C6", "Number D0; Mul D0 A0 B1", "Number D0; Add D0 A0 B0 C1",
	}
}

// several are parameters with names of their own.
func several(count, length int) []api.Param {
	var list []api.Param
	for i := range count {
		list = append(list, api.Param{Name: "p" + strconv.Itoa(i), Kind: 1, Len: length})
	}
	return list
}
