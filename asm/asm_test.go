package asm

import (
	"strconv"
	"strings"
	"testing"

	"lathe/api"
	"lathe/ir"
	"lathe/samples"
)

// The document's numbers once more, so that a change of package api is seen.
const (
	errLong api.Errno = 2
	errCode api.Errno = 160
	errLine api.Errno = 250

	maxName   = 64
	maxParams = 64
	maxLen    = 1 << 12
	maxRegs   = 1 << 14
	maxSlots  = 1 << 12
	maxCode   = 1 << 15
	maxNest   = 64
	maxCount  = 1<<31 - 1
	maxScript = 1 << 22
)

// usual is the usual code of the tests: its registers 0 to 3 are numbers, 4 to 7 whole numbers, 8 to 11 vectors of w, 12 to 15 of z, 16
// and 17 of u. The slots 0 to 4 are kept, 5 to 9 are not: a number, a whole number, vectors of w, z, u.
func usual(text string) api.Code { return samples.Usual(text) }

// usualLines is the text of the usual code without instructions, which has 32 lines.
const usualLines = `lathe 1
param w real 3
param z complex 2
param u real 1
reg 0 number
reg 1 number
reg 2 number
reg 3 number
reg 4 whole
reg 5 whole
reg 6 whole
reg 7 whole
reg 8 vector 0
reg 9 vector 0
reg 10 vector 0
reg 11 vector 0
reg 12 vector 1
reg 13 vector 1
reg 14 vector 1
reg 15 vector 1
reg 16 vector 2
reg 17 vector 2
slot 0 keep number 00000000
slot 1 keep whole 0
slot 2 keep vector 0 00000000
slot 3 keep vector 1 00000000
slot 4 keep vector 2 00000000
slot 5 local number 80000000
slot 6 local whole 9
slot 7 local vector 0 7fc00000
slot 8 local vector 1 ff800000
slot 9 local vector 2 40000000
`

// lines is a text of these lines, between which a test writes "; ".
func lines(text string) string {
	return strings.ReplaceAll(text, "; ", "\n") + "\n"
}

// short is a text as one line, of a long one the beginning and the end.
func short(text string) string {
	if len(text) > 200 {
		return strconv.Quote(text[:100]) + ".." + strconv.Quote(text[len(text)-100:])
	}
	return strconv.Quote(text)
}

// told is what Text tells of code that is well formed.
func told(t *testing.T, c api.Code) string {
	t.Helper()
	text, e := Text(c)
	if e != api.OK {
		t.Fatalf("Text = %d: %s", e, samples.Show(c))
	}
	return text
}

// isNone tells whether a code is the zero one.
func isNone(c api.Code) bool {
	return c.Sign == nil && c.Regs == nil && c.Slots == nil && c.List == nil
}

// holdTaken: AS1 to AS3, this is the text of that code, and it is the text's.
func holdTaken(t *testing.T, text string, c api.Code) {
	t.Helper()
	if got, e := Text(c); got != text || e != api.OK {
		t.Errorf("Text = %s, %d, want %s", short(got), e, short(text))
	}
	if d, e, line := Parse(text); !ir.Equal(d, c) || e != api.OK || line != 0 {
		t.Errorf("Parse(%s) = %s, %d, %d, want %s", short(text), samples.Show(d), e, line, samples.Show(c))
	}
}

// holdRefused: AS2 and rule 2, of this text that error is told with that line, and nothing beside it.
func holdRefused(t *testing.T, text string, want api.Errno, line int) {
	t.Helper()
	if c, e, at := Parse(text); e != want || at != line || !isNone(c) {
		t.Errorf("Parse(%s) = %s, %d, %d, want %d, %d", short(text), samples.Show(c), e, at, want, line)
	}
}

// TestExamples: AS1 to AS3, those of the chapter.
func TestExamples(t *testing.T) {
	c := api.Code{Sign: []api.Param{{Name: "w", Kind: 1, Len: 2}}, Regs: []api.Type{{Kind: 3}}, List: []api.Inst{{Op: 29}, {Op: 31}}}
	holdTaken(t, "lathe 1\nparam w real 2\nreg 0 vector 0\ngrad r0 0\nout r0 0\n", c)
	holdRefused(t, "lathe 1\nparam w real 2\nreg 0 vector 0\ngrad r00 0\nout r0 0\n", errLine, 4)
	holdRefused(t, "lathe 1\nparam w real 2\nreg 0 vector 0\ngrad r00 0\n", errLine, 4)
	holdRefused(t, "", errLine, 1)
}

// TestWhole: AS1 to AS3, a code with all parts, word by word.
func TestWhole(t *testing.T) {
	c := api.Code{
		Sign:  []api.Param{{Name: "w", Kind: 1, Len: 300}, {Name: "b/c", Kind: 2, Len: 4096}},
		Regs:  []api.Type{{Kind: 1}, {Kind: 2}, {Kind: 3}, {Kind: 3, Param: 1}},
		Slots: []api.Slot{{Type: api.Type{Kind: 1}, Keep: true, Bits: 0x3f80000a}, {Type: api.Type{Kind: 2}, Int: 128}, {Type: api.Type{Kind: 3, Param: 1}, Bits: 0x7fc00000}},
		List:  samples.Read("Number D0 =80000000; Load D1 N1; When A1; Param D3 N1; Mul D3 A3 B0; Out A3 N1; End; Loop; Grad D2; Out A2; Next"),
	}
	holdTaken(t, `lathe 1
param w real 300
param b/c complex 4096
reg 0 number
reg 1 whole
reg 2 vector 0
reg 3 vector 1
slot 0 keep number 3f80000a
slot 1 local whole 128
slot 2 local vector 1 7fc00000
number r0 80000000
load r1 1
when r1
param r3 1
mul r3 r3 r0
out r3 1
end
loop 0
grad r2 0
out r2 0
next
`, c)
}

// TestNothing: AS1 to AS3, the code without anything has one line.
func TestNothing(t *testing.T) {
	holdTaken(t, "lathe 1\n", api.Code{})
	if text := told(t, api.Code{Sign: []api.Param{}, Regs: []api.Type{}, Slots: []api.Slot{}, List: []api.Inst{}}); text != "lathe 1\n" {
		t.Errorf("%s", short(text))
	}
}
