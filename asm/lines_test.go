package asm

import (
	"fmt"
	"slices"
	"strings"
	"testing"

	"lathe/api"
	"lathe/samples"
)

// TestParamLines: AS1 to AS3, parameters real and complex, with names of every length and byte that may be, of lengths that may be.
func TestParamLines(t *testing.T) {
	for kind, word := range []string{1: "real", 2: "complex"} {
		if word == "" {
			continue
		}
		for _, length := range []int{1, 2, 9, 10, 99, 100, 999, 1000, 4095, 4096} {
			for size := 1; size <= maxName; size++ {
				name := strings.Repeat("Wz-0_./9aZ", 7)[:size]
				holdTaken(t, fmt.Sprintf("lathe 1\nparam %s %s %d\n", name, word, length), api.Code{Sign: []api.Param{{Name: name, Kind: kind, Len: length}}})
			}
		}
		for letter := range 256 {
			name := string([]byte{byte(letter)})
			text := "lathe 1\nparam " + name + " " + word + " 3\n"
			if strings.Contains("ABCDEFGHIJKLMNOPQRSTUVWXYZabcdefghijklmnopqrstuvwxyz0123456789_./-", name) {
				holdTaken(t, text, api.Code{Sign: []api.Param{{Name: name, Kind: kind, Len: 3}}})
			} else {
				holdRefused(t, text, errLine, 2)
			}
		}
	}
	for _, name := range []string{"lathe", "param", "reg", "slot", "real", "complex", "r0", "0", "1", "keep", "number", "7fc00000", "9999999999", "-", ".", "_/", "#"} {
		text := "lathe 1\nparam " + name + " real 1\nparam " + name + "x complex 1\n"
		if name == "#" {
			holdRefused(t, text, errLine, 2)
		} else {
			holdTaken(t, text, api.Code{Sign: []api.Param{{Name: name, Kind: 1, Len: 1}, {Name: name + "x", Kind: 2, Len: 1}}})
		}
	}
}

// TestRegisterLines: AS1 to AS3, registers of every type.
func TestRegisterLines(t *testing.T) {
	holdTaken(t, "lathe 1\nreg 0 number\n", api.Code{Regs: []api.Type{{Kind: 1}}})
	holdTaken(t, "lathe 1\nreg 0 whole\n", api.Code{Regs: []api.Type{{Kind: 2}}})
	holdTaken(t, lines("lathe 1; param a real 1; param b complex 1; reg 0 vector 1; reg 1 vector 0; reg 2 number; reg 3 vector 1; reg 4 whole; reg 5 number"),
		api.Code{Sign: []api.Param{{Name: "a", Kind: 1, Len: 1}, {Name: "b", Kind: 2, Len: 1}}, Regs: []api.Type{{Kind: 3, Param: 1}, {Kind: 3}, {Kind: 1}, {Kind: 3, Param: 1}, {Kind: 2}, {Kind: 1}}})
	holdTaken(t, usualLines, usual(""))
}

// TestSlotLines: AS1 to AS3, slots of every type with Keep and without, that begin with each sort of pattern and number.
func TestSlotLines(t *testing.T) {
	for keep, word := range map[bool]string{true: "keep", false: "local"} {
		for _, a := range append(samples.Edges(), 1, 0x0000000a, 0xabcdef, 0x01234567, 0x3f800000, 0xff7fffff, 0x7fc00000) {
			if !samples.IsTold(a) {
				holdRefused(t, fmt.Sprintf("lathe 1\nslot 0 %s number %08x\n", word, uint32(a)), errCode, 0)
				continue
			}
			holdTaken(t, fmt.Sprintf("lathe 1\nslot 0 %s number %08x\n", word, uint32(a)), api.Code{Slots: []api.Slot{{Type: api.Type{Kind: 1}, Keep: keep, Bits: a}}})
			holdTaken(t, fmt.Sprintf("lathe 1\nparam w real 2\nparam z complex 2\nslot 0 %s vector 1 %08x\nslot 1 %s vector 0 %08x\n", word, uint32(a), word, uint32(a)), api.Code{
				Sign:  []api.Param{{Name: "w", Kind: 1, Len: 2}, {Name: "z", Kind: 2, Len: 2}},
				Slots: []api.Slot{{Type: api.Type{Kind: 3, Param: 1}, Keep: keep, Bits: a}, {Type: api.Type{Kind: 3}, Keep: keep, Bits: a}},
			})
		}
		for _, n := range numbers() {
			holdTaken(t, fmt.Sprintf("lathe 1\nslot 0 %s whole %d\n", word, n), api.Code{Slots: []api.Slot{{Type: api.Type{Kind: 2}, Keep: keep, Int: n}}})
		}
	}
}

// everyLines is the text of an instruction of each Op.
const everyLines = `number r0 3f000000
whole r4 300
copy r1 r0
add r1 r0 r1
sub r2 r1 r0
mul r2 r2 r1
div r3 r2 r1
min r3 r3 r2
max r3 r2 r3
less r2 r3 r1
sqrt r2 r2
neg r1 r2
abs r1 r1
finite r0 r1
select r1 r0 r2 r3
power r2 r1 r4
from r3 r4
test r5 r3
grad r8 0
sum r2 r8
least r3 r8
inc r5 r5
below r6 r5 r4
same r6 r4 r5
and r7 r6 r5
not r7 r7
choose r4 r7 r5 r6
minus r5 r4 r6
over r6 r5 r4
param r12 1
out r12 1
load r9 2
store r9 7
when r7
loop 1
neg r13 r12
out r13 0
next
end
`

// TestEveryWord: AS1 to AS3, an instruction of each word, with just the fields that its row names.
func TestEveryWord(t *testing.T) {
	holdTaken(t, usualLines+everyLines, samples.EveryOp())
	if wantText(samples.EveryOp()) != usualLines+everyLines {
		t.Error("the tests' own text is another one")
	}
}

// TestEachFieldByItself: AS2, a field too few or too many is at fault in each instruction, whichever it is; so is one of another sort.
func TestEachFieldByItself(t *testing.T) {
	for n, line := range strings.Split(strings.TrimSpace(everyLines), "\n") {
		words := strings.Split(line, " ")
		wrong := func(list ...string) {
			t.Helper()
			ahead := strings.Join(strings.SplitAfter(everyLines, "\n")[:n], "")
			holdRefused(t, usualLines+ahead+strings.Join(list, " ")+"\n", errLine, 33+n)
		}
		for k := 1; k < len(words); k++ {
			wrong(slices.Delete(slices.Clone(words), k, k+1)...)
			wrong(words[:k]...)
		}
		for k := 1; k <= len(words); k++ {
			for _, more := range []string{"r0", "0", "1", "3f800000", "00000000", "", "x"} {
				wrong(slices.Insert(slices.Clone(words), k, more)...)
			}
		}
		for k := 1; k < len(words); k++ {
			other := slices.Clone(words)
			switch {
			case words[k][0] == 'r':
				other[k] = words[k][1:]
			case len(words[k]) == 8:
				other[k] = "1"
			default:
				other[k] = "r" + words[k]
			}
			wrong(other...)
			for _, odd := range []string{"", "r", "-1", "x", "R1", "rr1", "r-1", "r+1", "r1r", "r01", "01", "3F000000", "3f00000", "3f0000000", "0x3f0000"} {
				other[k] = odd
				wrong(other...)
			}
		}
	}
}

// TestParamTwice: AS2 and AS3, OpParam's line beside a parameter's: the one has two words behind it, the other three.
func TestParamTwice(t *testing.T) {
	c := api.Code{Sign: []api.Param{{Name: "r0", Kind: 1, Len: 2}, {Name: "param", Kind: 2, Len: 1}}, Regs: []api.Type{{Kind: 3}, {Kind: 3, Param: 1}}, List: samples.Read("Param; Param D1; Param D1 N1")}
	holdTaken(t, lines("lathe 1; param r0 real 2; param param complex 1; reg 0 vector 0; reg 1 vector 1; param r0 0; param r1 0; param r1 1"), c)
	holdRefused(t, lines("lathe 1; param r0 0"), errCode, 2) // an instruction, whose register is not there
	holdRefused(t, lines("lathe 1; param w real 2; param r0 0; reg 0 vector 0"), errLine, 4)
	holdRefused(t, lines("lathe 1; param w real 2; param r0 0; param z real 2"), errLine, 4)
	holdRefused(t, lines("lathe 1; param w real 2; reg 0 vector 0; param r0 0; param z real 2"), errLine, 5)
	for _, line := range []string{
		"param", "param ", "param w", "param r0", "param w real", "param w 2", "param real 2", "param r0 0 0", "param r0 real", "param w real 2 2", "param w real 2 ", "param r0 0 ", "param  r0 0", "param  w real 2", "param w real  2",
		"param 0 r0", "param w r0 0", "param w real r2", "param w real 2 real 2", "Param w real 2", "Param r0 0", "params w real 2", "param w whole 2", "param w vector 0", "param w Real 2", "param w COMPLEX 2", "param r0 1 2 3",
	} {
		holdRefused(t, "lathe 1\n"+line+"\n", errLine, 2)
		holdRefused(t, "lathe 1\nparam v real 2\nreg 0 vector 0\n"+line+"\n", errLine, 4)
	}
}
