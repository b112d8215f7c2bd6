package asm

import (
	"fmt"
	"strconv"
	"strings"
	"testing"

	"lathe/api"
	"lathe/samples"
)

// numbers are some of every length, up to the greatest.
func numbers() []int {
	list := []int{0, 1, 7, 12, 123, 1234, 12345, 123456, 1234567, 12345678, 123456789, 1234567890, maxCount - 1, maxCount}
	for n := 10; n <= maxCount; n *= 10 {
		list = append(list, n-1, n, n+1, 2*n, maxCount/n)
	}
	for k := range 31 {
		list = append(list, 1<<k-1, 1<<k)
	}
	return list
}

// noNumbers are words that are none.
func noNumbers() []string {
	list := []string{
		"00", "01", "000", "007", "0000000000", "0000000001", "02147483647", "-0", "-1", "+0", "+1", "-2147483648", "0x1", "0b1", "0o1", "1_0", "1.0", "1.", ".1", "1e1", "1E1", "1,", "0,0", "x", "a", "r", "rr0", "o", "O", "l",
		"0r", "1r", "r-1", "r+1", "r1r1", "r 1", "one", "nan", "inf", "2147483648", "2147483649", "4294967295", "4294967296", "4294967297", "9223372036854775807", "9223372036854775808", "18446744073709551616",
		"18446744073709551617", "99999999999999999999", "10000000000000000000000000000000000000001", "\t1", "1\t", "1\r", "\v1", "1\x00", "\x001", "\xff", "1\xff", "\u0661", "\uff11", "\u00b2", "\u2160", "1\u00a0", "'1'", "\"1\"", "(1)", "1;", "#1", "1#", "$1", "%31", "=1", "D0", "N1",
	}
	return append(list, "1"+strings.Repeat("0", 100000), strings.Repeat("0", 100000)+"1", strings.Repeat("9", 30), strings.Repeat("r", 50))
}

// TestNumbers: AS1 to AS3, numbers of every length, where each may stand.
func TestNumbers(t *testing.T) {
	for _, n := range numbers() {
		holdTaken(t, fmt.Sprintf("lathe 1\nreg 0 whole\nslot 0 keep whole %d\nslot 1 local whole %d\nwhole r0 %d\n", n, n, n), api.Code{
			Regs: []api.Type{{Kind: 2}}, Slots: []api.Slot{{Type: api.Type{Kind: 2}, Keep: true, Int: n}, {Type: api.Type{Kind: 2}, Int: n}}, List: []api.Inst{{Op: api.OpWhole, N: n}},
		})
	}
}

// TestFarNumbers: AS2, numbers up to MaxCount are right as a line's words wherever they stand: what is not there is the code's fault.
func TestFarNumbers(t *testing.T) {
	for _, n := range numbers() {
		if n < 64 {
			continue
		}
		holdRefused(t, fmt.Sprintf("lathe 1\nreg 0 vector %d\n", n), errCode, 0)
		holdRefused(t, fmt.Sprintf("lathe 1\nslot 0 local vector %d 00000000\n", n), errCode, 0)
		for line, text := range map[int]string{33: "number r%d 00000000", 34: "whole r4 0; inc r%d r4", 35: "whole r4 0; inc r5 r4; choose r5 r4 r%d r4"} {
			holdRefused(t, usualLines+lines(fmt.Sprintf(text, n)), errCode, line)
		}
		for _, text := range []string{"when r%d", "grad r8 %d", "param r12 %d", "load r0 %d", "loop %d", "store r%d 0", "out r%d 0"} {
			holdRefused(t, usualLines+lines(fmt.Sprintf(text, n)), errCode, 33)
		}
		for _, text := range []string{"store r0 %d", "neg r1 r%d", "select r1 r0 r0 r%d", "add r%d r0 r0"} {
			holdRefused(t, usualLines+lines("number r0 7fc00000; "+fmt.Sprintf(text, n)), errCode, 34)
		}
	}
}

// wordsOf are the words of a line.
func wordsOf(line string) []string { return strings.Split(strings.TrimSuffix(line, "\n"), " ") }

// TestNoNumbers: AS2, each number of a text by itself, whatever it tells, in place of which a word stands that is none.
func TestNoNumbers(t *testing.T) {
	pieces := strings.SplitAfter(usualLines+everyLines, "\n")
	for n, line := range pieces[1 : len(pieces)-1] {
		list := wordsOf(line)
		for k, word := range list {
			_, err := strconv.Atoi(strings.TrimPrefix(word, "r"))
			if err != nil || k == 0 || len(word) == 8 {
				continue
			}
			ahead := "" // a register's letter stays
			if word[0] == 'r' {
				ahead = "r"
			}
			for _, odd := range noNumbers() {
				if len(odd) > 1000 && n%5 != 0 {
					continue
				}
				list[k] = ahead + odd
				text := strings.Join(pieces[:n+1], "") + strings.Join(list, " ") + "\n"
				holdRefused(t, text, errLine, n+2)
				holdRefused(t, text+strings.Join(pieces[n+2:], ""), errLine, n+2)
			}
			list[k] = ahead
			holdRefused(t, strings.Join(pieces[:n+1], "")+strings.Join(list, " ")+"\n", errLine, n+2)
			list[k] = word
		}
	}
}

// TestLengths: AS2, a parameter's length from 1 to MaxLen, and others.
func TestLengths(t *testing.T) {
	for _, kind := range []string{"real", "complex"} {
		for _, n := range []int{0, 4097, 4098, 5000, 8192, 10000, 65536, 1<<20 + 1, 1 << 30, maxCount, maxCount + 1, 1<<32 + 1, 1<<62 + 1} {
			text := fmt.Sprintf("lathe 1\nparam w %s %d\n", kind, n)
			holdRefused(t, text, errLine, 2)
			holdRefused(t, fmt.Sprintf("lathe 1\nparam v %s 4096\nparam w %s %d\n", kind, kind, n), errLine, 3)
		}
		for n := 1; n <= maxLen; n++ {
			if _, e, line := Parse(fmt.Sprintf("lathe 1\nparam w %s %d\n", kind, n)); e != api.OK || line != 0 {
				t.Errorf("the length %d: %d, %d", n, e, line)
			}
		}
	}
}

// TestNextNumber: AS2, a register's or a slot's number is the next one.
func TestNextNumber(t *testing.T) {
	for _, sort := range []string{"reg %d number", "reg %d whole", "slot %d keep number 00000000", "slot %d local whole 0"} {
		text := "lathe 1\n"
		for n := range 130 {
			for _, other := range []int{0, 1, n - 2, n - 1, n + 1, n + 2, n + 10, 10 * n, n + 100, n + 256, n + 65536, maxCount - n, 1<<32 + n} {
				if other >= 0 && other != n {
					holdRefused(t, text+fmt.Sprintf(sort+"\n", other), errLine, n+2)
				}
			}
			text += fmt.Sprintf(sort+"\n", n)
			if _, e, _ := Parse(text); e != api.OK {
				t.Errorf("%s: %d", short(text), e)
			}
		}
	}
}

// TestHex: AS2, hexadecimal of other lengths and letters, in a slot of a number, in one of a vector, in an instruction.
func TestHex(t *testing.T) {
	odd := []string{
		"", "0", "00", "0000000", "000000000", "0000000000000000", "3f80000", "3f8000000", "3F800000", "3f80000A", "ABCDEF01", "7FC00000", "g0000000", "0000000g", "0x000000", "0x3f800000", "3f800000h", "-0000000", "+0000000",
		"3f80 0000", "3f_00000", "3f80000.", "0.000000", "r0000000", "r3f80000", "\t3f80000", "3f80000\t", "3f80000\r", "3f800000\r", "\uff10000000", "\u06600000000", "1", "0.5", "1.0", "inf", "nan", "infinity", "7fc0000o", "7fc0000l", strings.Repeat("0", 100000),
		"3f80000\x00", "\x00\x00\x00\x00\x00\x00\x00\x00", "````````", "@@@@@@@@", "////////", "::::::::", "GGGGGGGG",
	}
	for _, word := range odd {
		holdRefused(t, "lathe 1\nslot 0 keep number "+word+"\n", errLine, 2)
		holdRefused(t, "lathe 1\nslot 0 local number "+word+"\n", errLine, 2)
		holdRefused(t, "lathe 1\nparam w real 1\nslot 0 keep vector 0 "+word+"\n", errLine, 3)
		holdRefused(t, "lathe 1\nreg 0 number\nnumber r0 "+word+"\n", errLine, 3)
	}
	for at := range 8 {
		for letter := range 256 {
			word := []byte("00000000")
			word[at] = byte(letter)
			text := "lathe 1\nreg 0 number\nnumber r0 " + string(word) + "\n"
			if n, err := strconv.ParseUint(string(word), 16, 32); err == nil && (letter < 'A' || letter > 'F') {
				holdTaken(t, text, api.Code{Regs: []api.Type{{Kind: 1}}, List: []api.Inst{{Op: api.OpNumber, Bits: api.F(n)}}})
			} else {
				holdRefused(t, text, errLine, 3)
			}
		}
	}
	for _, a := range append(samples.Edges(), 0xdeadbeef, 0x12345678, 0x9abcdef0) {
		if text := fmt.Sprintf("lathe 1\nreg 0 number\nnumber r0 %08x\n", uint32(a)); samples.IsTold(a) {
			holdTaken(t, text, api.Code{Regs: []api.Type{{Kind: 1}}, List: []api.Inst{{Op: api.OpNumber, Bits: a}}})
		} else {
			holdRefused(t, text, errCode, 3)
		}
	}
	for _, a := range samples.NaNs() {
		if a != api.NaN {
			holdRefused(t, fmt.Sprintf("lathe 1\nreg 0 number\nnumber r0 00000000\nnumber r0 %08x\n", uint32(a)), errCode, 4)
			holdRefused(t, fmt.Sprintf("lathe 1\nslot 0 keep number %08x\n", uint32(a)), errCode, 0)
		}
	}
}
