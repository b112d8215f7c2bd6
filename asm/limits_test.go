package asm

import (
	"fmt"
	"slices"
	"strings"
	"testing"

	"lathe/api"
	"lathe/samples"
)

// holdLimit: AS1 to AS3, code at a limit; its text.
func holdLimit(t *testing.T, c api.Code) string {
	t.Helper()
	text := wantText(c)
	holdTaken(t, text, c)
	return text
}

// holdBeyond: AS1 and AS2, code beyond a limit has no text, and its lines have ErrCode without a line.
func holdBeyond(t *testing.T, c api.Code) {
	t.Helper()
	holdNoText(t, c)
	holdRefused(t, wantText(c), errCode, 0)
	holdRefused(t, wantText(c)+"fly\n", errLine, strings.Count(wantText(c), "\n")+1)
}

// many are so many parameters, with names of every length.
func many(count, length int) []api.Param {
	var list []api.Param
	for n := range count {
		list = append(list, api.Param{Name: strings.Repeat("n", n%maxName+1), Kind: 1 + n%2, Len: length})
	}
	return list
}

// TestMostParams: AS1 to AS3, MaxParams parameters, and more: how many there are is asked of the code alone.
func TestMostParams(t *testing.T) {
	for _, count := range []int{1, maxParams - 1, maxParams} {
		holdLimit(t, api.Code{Sign: many(count, 600)})
	}
	holdBeyond(t, api.Code{Sign: append(many(maxParams, 1), api.Param{Name: "w", Kind: 1, Len: 1})})
	var list []api.Param
	for n := range 10000 {
		list = append(list, api.Param{Name: fmt.Sprint(n), Kind: 1, Len: 4096})
	}
	holdBeyond(t, api.Code{Sign: list})
}

// TestMostRegisters: AS1 to AS3, MaxRegs registers of each type and of all, the last ones named in each field; and more.
func TestMostRegisters(t *testing.T) {
	sign := many(maxParams, 1)
	var mixed []api.Type
	for n := range maxRegs {
		is := api.Type{Kind: 1 + n%3}
		if is.Kind == 3 {
			is.Param = n % maxParams
		}
		mixed = append(mixed, is)
	}
	for _, list := range [][]api.Type{
		slices.Repeat([]api.Type{{Kind: 1}}, maxRegs), slices.Repeat([]api.Type{{Kind: 2}}, maxRegs), slices.Repeat([]api.Type{{Kind: 3, Param: 63}}, maxRegs), mixed,
	} {
		holdLimit(t, api.Code{Sign: sign, Regs: list[1:]})
		holdLimit(t, api.Code{Sign: sign, Regs: list})
		holdBeyond(t, api.Code{Sign: sign, Regs: append(slices.Clone(list), list[0])})
		holdBeyond(t, api.Code{Sign: sign, Regs: slices.Repeat(list, 5), List: samples.Read("End")})
	}
	c := api.Code{Regs: slices.Repeat([]api.Type{{Kind: 1}}, maxRegs)}
	c.List = samples.Read("Number D16383 =3f800000; Number D16382; Number D128; Select D16383 A16383 B16382 C16383; Select D127 A128 B16383 C128; Add D16381 A127 B16382; Neg D0 A16381")
	holdLimit(t, c)
}

// TestMostSlots: AS1 to AS3, MaxSlots slots of each type and of all, the last ones named; and more.
func TestMostSlots(t *testing.T) {
	c := usual("")
	all := slices.Repeat(c.Slots, maxSlots/10+1)[:maxSlots]
	for _, list := range [][]api.Slot{
		slices.Repeat(c.Slots[:1], maxSlots), slices.Repeat([]api.Slot{{Type: api.Type{Kind: 2}, Int: maxCount}}, maxSlots), slices.Repeat(c.Slots[8:9], maxSlots), all,
	} {
		c.Slots = list[1:]
		holdLimit(t, c)
		c.Slots = list
		register := slices.Index(c.Regs, list[maxSlots-1].Type)
		c.List = []api.Inst{{Op: api.OpLoad, D: register, N: maxSlots - 1}, {Op: api.OpStore, A: register, N: maxSlots - 1}}
		holdLimit(t, c)
		c.Slots, c.List = append(slices.Clone(list), list[0]), nil
		holdBeyond(t, c)
		c.Slots = slices.Repeat(list, 3)
		holdBeyond(t, c)
	}
}

// TestMostInstructions: AS1 to AS3, MaxCode instructions of one kind and of all, and more.
func TestMostInstructions(t *testing.T) {
	every := samples.EveryOp()
	for _, list := range [][]api.Inst{
		slices.Repeat(samples.Read("Number D0 =3f800000"), maxCode), slices.Repeat(samples.Read("Whole D4 N2147483647"), maxCode), slices.Repeat(samples.Read("Loop N2; Next"), maxCode/2),
		slices.Repeat(every.List, maxCode/len(every.List)),
	} {
		c := usual("")
		c.List = append(slices.Clone(list), slices.Repeat(samples.Read("Number D0"), maxCode-len(list))...)
		if len(c.List) != maxCode {
			t.Fatalf("%d instructions", len(c.List))
		}
		holdLimit(t, c)
		c.List[maxCode-1] = api.Inst{Op: api.OpEnd}
		holdRefused(t, wantText(c), errCode, 32+maxCode)
		c.List = append(c.List, samples.Read("Number D0")...)
		holdBeyond(t, c)
	}
	nest := usual("Whole D4 N1")
	nest.List = slices.Concat(nest.List, slices.Repeat(samples.Read("When A4"), maxNest), slices.Repeat(samples.Read("End"), maxNest))
	holdLimit(t, nest)
}

// TestGreatest: AS1 to AS3, as many parameters, registers, slots and instructions as may be, all at once, as long as they may be. Their text
// is not too long for Parse.
func TestGreatest(t *testing.T) {
	c := api.Code{Regs: slices.Repeat([]api.Type{{Kind: 3, Param: 63}}, maxRegs), Slots: slices.Repeat([]api.Slot{{Type: api.Type{Kind: 3, Param: 63}, Bits: 0xff800000}}, maxSlots)}
	for n := range maxParams {
		c.Sign = append(c.Sign, api.Param{Name: strings.Repeat("n", maxName-2) + fmt.Sprintf("%02d", n), Kind: 1 + n%2, Len: 500})
	}
	c.List = samples.Read("Grad D16383 N1")
	for len(c.List) < maxCode {
		c.List = append(c.List, api.Inst{Op: api.OpSelect, D: 16383, A: 16383, B: 16383, C: 16383})
	}
	text := holdLimit(t, c)
	if len(text) > maxScript {
		t.Errorf("%d bytes", len(text))
	}
	holdRefused(t, text[:len(text)-1], errLine, strings.Count(text, "\n"))
	holdRefused(t, text+"end\n", errCode, 0)
}

// filled is a text of so many bytes that begins so and goes on with that.
func filled(begins, goesOn string, size int) string {
	return (begins + strings.Repeat(goesOn, size/len(goesOn)+1))[:size]
}

// TestLongTexts: AS2, a text of MaxScript bytes is read, one of a byte more is not, whatever stands in it.
func TestLongTexts(t *testing.T) {
	for _, x := range []struct {
		begins, goesOn string
		line           int
	}{
		{"", "lathe 1\n", 2}, {"lathe 1\n", "\n", 2}, {"lathe 1\nreg 0 ", "n", 2}, {"lathe 1\nreg 0 number\nparam ", " ", 3}, {"lathe 1\nreg ", "0", 2}, {"lathe 1\nreg ", "9", 2}, {"lathe 1\nparam ", "w", 2},
		{"", "\x00", 1}, {"", "\xff", 1}, {"", "\n", 1}, {"", " ", 1}, {"lathe 1", "\r\n", 1}, {"lathe 1\nend\nend", " end\n", 3}, {usualLines + everyLines, "x", 72},
	} {
		for _, size := range []int{maxScript - 1, maxScript} {
			holdRefused(t, filled(x.begins, x.goesOn, size), errLine, x.line)
		}
		for _, size := range []int{maxScript + 1, maxScript + 2, 2 * maxScript} {
			holdRefused(t, filled(x.begins, x.goesOn, size), errLong, 0)
		}
	}
}

// TestLongestCode: AS2, a text of MaxScript bytes whose lines are all right, without its last byte, and with one more.
func TestLongestCode(t *testing.T) {
	text := "lathe 1\n" + strings.Repeat("end\n", (maxScript-8)/4)
	if len(text) != maxScript {
		t.Fatalf("%d bytes", len(text))
	}
	holdRefused(t, text, errCode, 0)
	holdRefused(t, text[:maxScript-1], errLine, strings.Count(text, "\n"))
	holdRefused(t, text[:maxScript-4]+"end.", errLine, strings.Count(text, "\n"))
	holdRefused(t, text[:maxScript-8]+"loop 12\n", errCode, 0)
	holdRefused(t, text+"\n", errLong, 0)
	holdRefused(t, text+"end\n", errLong, 0)
}
