package code

import (
	"runtime"
	"slices"
	"strings"
	"testing"

	"lathe/api"
	"lathe/ir"
	"lathe/samples"
)

// holdLimit: CO1 to CO3, code at a limit; its bytecode.
func holdLimit(t *testing.T, c api.Code) string {
	t.Helper()
	b := wantBytes(c)
	holdTaken(t, b, c)
	return b
}

// many are so many parameters, with names of every length.
func many(count, length int) []api.Param {
	var list []api.Param
	for n := range count {
		p := api.Param{Name: strings.Repeat("n", n%maxName+1), Kind: 1 + n%2, Len: length}
		list = append(list, p)
	}
	return list
}

// TestMostParams: CO1 to CO3, MaxParams parameters with names of every length; one more: Encode tells ir.Check's error, Decode ErrLong.
func TestMostParams(t *testing.T) {
	for _, count := range []int{1, maxParams - 1, maxParams} {
		b := holdLimit(t, api.Code{Sign: many(count, 600)})
		if want := 16 + count*(count+1)/2 + 4*count; len(b) != want {
			t.Errorf("%d bytes, want %d", len(b), want)
		}
	}
	more := append(many(maxParams, 1), api.Param{Name: "w", Kind: 1, Len: 1})
	holdNoBytes(t, api.Code{Sign: more}, errLong)
	holdRefused(t, wantBytes(api.Code{Sign: more}), errLong, 4)
}

// TestLongNames: CO2, a name of MaxName bytes and one of a byte more.
func TestLongNames(t *testing.T) {
	c := api.Code{Sign: []api.Param{{Name: "w", Kind: 1, Len: 1}, {Name: nameOf(maxName, 3), Kind: 2, Len: 4096}}}
	holdLimit(t, c)
	c.Sign[1].Name += "x"
	holdNoBytes(t, c, errParam)
	holdRefused(t, wantBytes(c), errLong, 10)
}

// TestMostRegisters: CO1 to CO3, MaxRegs registers of each type and of all, the last ones named in each field; and one more.
func TestMostRegisters(t *testing.T) {
	sign := many(maxParams, 1)
	var mixed []api.Type
	for n := range maxRegs {
		is := api.Type{Kind: 1 + n%3}
		if is.Kind == 3 {
			is.Param = n % maxParams
		}
		mixed = append(mixed, is)
	}
	for _, list := range [][]api.Type{
		slices.Repeat([]api.Type{{Kind: 1}}, maxRegs), slices.Repeat([]api.Type{{Kind: 2}}, maxRegs), slices.Repeat([]api.Type{{Kind: 3}}, maxRegs), slices.Repeat([]api.Type{{Kind: 3, Param: 63}}, maxRegs), mixed,
	} {
		holdLimit(t, api.Code{Sign: sign, Regs: list[1:]})
		holdLimit(t, api.Code{Sign: sign, Regs: list})
		more := api.Code{Sign: sign, Regs: append(slices.Clone(list), list[0])}
		holdNoBytes(t, more, errSize)
		b := wantBytes(api.Code{Sign: sign})
		holdRefused(t, wantBytes(more), errLong, len(b)-11)
	}
	c := api.Code{Regs: slices.Repeat([]api.Type{{Kind: 1}}, maxRegs)}
	c.List = samples.Read("Number D16383 =3f800000; Number D16382; Number D128; Select D16383 A16383 B16382 C16383; Select D127 A128 B16383 C128; Add D16381 A127 B16382; Neg D0 A16381")
	holdLimit(t, c)
}

// TestMostSlots: CO1 to CO3, MaxSlots slots of each type and of all, the last ones named; and one more.
func TestMostSlots(t *testing.T) {
	c := usual("")
	all := slices.Repeat(c.Slots, maxSlots/10+1)[:maxSlots]
	for _, list := range [][]api.Slot{
		slices.Repeat(c.Slots[:1], maxSlots), slices.Repeat([]api.Slot{{Type: api.Type{Kind: 2}, Int: maxCount}}, maxSlots), slices.Repeat(c.Slots[8:9], maxSlots), all,
	} {
		c.Slots = list[1:]
		holdLimit(t, c)
		c.Slots = list
		c.List = []api.Inst{{Op: api.OpLoad, D: registerOf(c, list[maxSlots-1].Type), N: maxSlots - 1}, {Op: api.OpStore, A: registerOf(c, list[maxSlots-1].Type), N: maxSlots - 1}}
		holdLimit(t, c)
		c.Slots, c.List = append(slices.Clone(list), list[0]), nil
		holdNoBytes(t, c, errSlots)
		holdRefused(t, wantBytes(c), errLong, len(wantBytes(api.Code{Sign: c.Sign, Regs: c.Regs}))-10)
	}
}

// registerOf is a register of that type.
func registerOf(c api.Code, is api.Type) int { return slices.Index(c.Regs, is) }

// TestMostInstructions: CO1 to CO3, MaxCode instructions of one kind and of all, and one more.
func TestMostInstructions(t *testing.T) {
	every := samples.EveryOp()
	for _, list := range [][]api.Inst{
		slices.Repeat(samples.Read("Number D0 =3f800000"), maxCode), slices.Repeat(samples.Read("Whole D4 N2147483647"), maxCode), slices.Repeat(samples.Read("Loop N2; Next"), maxCode/2),
		slices.Repeat(every.List, maxCode/len(every.List)),
	} {
		c := usual("")
		c.List = append(slices.Clone(list), slices.Repeat(samples.Read("Number D0"), maxCode-len(list))...)
		if len(c.List) != maxCode {
			t.Fatalf("%d instructions", len(c.List))
		}
		holdLimit(t, c)
		c.List = append(c.List, samples.Read("Number D0")...)
		holdNoBytes(t, c, errSize)
		holdRefused(t, wantBytes(c), errLong, len(wantBytes(usual("")))-9)
	}
	nest := usual("Whole D4 N1")
	nest.List = slices.Concat(nest.List, slices.Repeat(samples.Read("When A4"), maxNest), slices.Repeat(samples.Read("End"), maxNest))
	holdLimit(t, nest)
}

// TestGreatest: CO1 to CO5, as many parameters, registers, slots and instructions as may be, all at once, as great as they may be.
func TestGreatest(t *testing.T) {
	c := api.Code{Sign: many(maxParams, 600), Regs: slices.Repeat([]api.Type{{Kind: 3, Param: 63}}, maxRegs), Slots: slices.Repeat([]api.Slot{{Type: api.Type{Kind: 3, Param: 63}, Keep: true, Bits: 0xff800000}}, maxSlots)}
	c.List = samples.Read("Grad D16383 N1")
	for len(c.List) < maxCode {
		c.List = append(c.List, api.Inst{Op: api.OpSelect, D: 16383, A: 16383, B: 16383, C: 16383})
	}
	b := holdLimit(t, c)
	for _, size := range []int{len(b) - 1, len(b) - 8, len(b) - 9, len(b) / 2, 100} {
		if _, e, _ := Decode(b[:size]); e != errCut {
			t.Errorf("%d of %d bytes: %d", size, len(b), e)
		}
	}
}

// TestLittleRoom: CO5, however many parts are told of, no more is made than the bytes have: few bytes need little memory.
func TestLittleRoom(t *testing.T) {
	for _, text := range []string{"40", "00 808001", "00 00 8020", "00 00 00 808002", "01 01 40", "00 808001 01 01", "00 00 8020 00 01 00000000"} {
		b := "lth1" + raw(text)
		var before, after runtime.MemStats
		runtime.ReadMemStats(&before)
		for range 100 {
			if _, e, at := Decode(b); e != errCut || at != len(b) {
				t.Fatalf("Decode(%s) = %d, %d", short(b), e, at)
			}
		}
		runtime.ReadMemStats(&after)
		if room := (after.TotalAlloc - before.TotalAlloc) / 100; room > 4096 {
			t.Errorf("Decode(%s) takes %d bytes", short(b), room)
		}
	}
}

// TestLongBytes: CO5, long bytes of all sorts are done with soon.
func TestLongBytes(t *testing.T) {
	const size = 1 << 22
	for _, b := range []string{"\x00", "\x01", "\x80", "\xff", "l", "lth1", "lth1\x00\x00\x00\x00"} {
		long := strings.Repeat(b, size/len(b))
		hold(t, long)
		hold(t, "lth1"+long)
		hold(t, sealed(long))
		hold(t, sealed("lth1"+long))
	}
	c, b := samples.EveryOp(), encoded(t, samples.EveryOp())
	if d, e, at := Decode(b + strings.Repeat(b, 20000)); e != errBehind || at != len(b) || !isNone(d) {
		t.Errorf("%d, %d", e, at)
	}
	if d, e, _ := Decode(b); e != api.OK || !ir.Equal(c, d) {
		t.Errorf("%d", e)
	}
}
