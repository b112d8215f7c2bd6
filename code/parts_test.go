package code

import (
	"slices"
	"strconv"
	"strings"
	"testing"

	"lathe/api"
	"lathe/samples"
)

// TestMark: CO2, bytes that do not begin with the mark, as far as they go.
func TestMark(t *testing.T) {
	whole := made("00 00 00 00")
	for size := range 4 {
		holdRefused(t, whole[:size], errCut, 0)
	}
	holdRefused(t, whole[:4], errCut, 4)
	for at := range 4 {
		for other := range 256 {
			b := []byte(whole)
			if b[at] == byte(other) {
				continue
			}
			b[at] = byte(other)
			for size := range len(b) + 1 {
				want, place := errMark, 0
				if size <= at {
					want = errCut
				}
				holdRefused(t, string(b[:size]), want, place)
			}
			holdRefused(t, sealed(string(b[:8])), errMark, 0)
		}
	}
	for _, b := range []string{"LTH1", "lth0", "1htl", " lth1", "\x00\x00\x00\x00", "LATHS\x01", "l\x00", "x", strings.Repeat("\xff", 1000)} {
		holdRefused(t, b, errMark, 0)
	}
}

// nameOf is a name of so many bytes that may be, with a number in it where there is room.
func nameOf(size, number int) string {
	text := strconv.Itoa(number) + strings.Repeat("x", size)
	return text[:size]
}

// TestSignatures: CO1 to CO3, a signature of none, of each kind, with names of every length and Len of each size.
func TestSignatures(t *testing.T) {
	holdTaken(t, made("00 00 00 00"), api.Code{Sign: []api.Param{}})
	for kind := 1; kind <= 2; kind++ {
		for size := 1; size <= maxName; size++ {
			for _, length := range []int{1, 2, 127, 128, 129, 4095, 4096} {
				name := nameOf(size, 7)
				want := sealed("lth1\x01" + string([]byte{byte(kind), byte(size)}) + name + groups(length) + "\x00\x00\x00")
				holdTaken(t, want, api.Code{Sign: []api.Param{{Name: name, Kind: kind, Len: length}}})
			}
		}
	}
	holdTaken(t, made("03 01 01 'w' 03  02 03 'b/c' 02  01 02 '-_' 8020  00 00 00"), api.Code{Sign: []api.Param{{Name: "w", Kind: 1, Len: 3}, {Name: "b/c", Kind: 2, Len: 2}, {Name: "-_", Kind: 1, Len: 4096}}})
}

// TestNames: CO2, a byte of a name that may not be, and a name without bytes, are told by ir.Check alone.
func TestNames(t *testing.T) {
	for b := range 256 {
		name := string([]byte{byte(b)})
		bytes := sealed("lth1\x01\x02\x03a" + name + "z\x01\x00\x00\x00")
		if strings.Contains("ABCDEFGHIJKLMNOPQRSTUVWXYZabcdefghijklmnopqrstuvwxyz0123456789_./-", name) {
			holdTaken(t, bytes, api.Code{Sign: []api.Param{{Name: "a" + name + "z", Kind: 2, Len: 1}}})
		} else {
			holdRefused(t, bytes, errParam, 0)
		}
	}
	holdRefused(t, made("01 01 00 01 00 00 00"), errParam, 0)
	holdRefused(t, made("02 01 01 'w' 03 02 01 'w' 01 00 00 00"), errTwice, 0)
}

// TestRegisters: CO1 to CO3, registers of every type.
func TestRegisters(t *testing.T) {
	sign := []api.Param{{Name: "w", Kind: 1, Len: 3}, {Name: "z", Kind: 2, Len: 2}}
	head := "02 01 01 'w' 03 02 01 'z' 02"
	number, whole, w, z := api.Type{Kind: 1}, api.Type{Kind: 2}, api.Type{Kind: 3}, api.Type{Kind: 3, Param: 1}
	for text, list := range map[string][]api.Type{
		"00": nil, "01 01": {number}, "01 02": {whole}, "01 03 00": {w}, "01 03 01": {z},
		"04 01 02 03 00 03 01": {number, whole, w, z}, "06 03 01 03 01 02 01 03 00 02": {z, z, whole, number, w, whole},
	} {
		holdTaken(t, made(head+text+"00 00"), api.Code{Sign: sign, Regs: list})
	}
	holdTaken(t, sealed("lth1\x00"+raw("8001")+strings.Repeat("\x02", 128)+"\x00\x00"), api.Code{Regs: slices.Repeat([]api.Type{whole}, 128)})
	holdRefused(t, made("00 01 03 00 00 00"), errCode, 0)
	holdRefused(t, made(head+"01 03 02 00 00"), errCode, 0)
}

// TestSlots: CO1 to CO3, slots of every type, with Keep and without, whatever they hold at the beginning.
func TestSlots(t *testing.T) {
	sign := []api.Param{{Name: "w", Kind: 1, Len: 3}, {Name: "z", Kind: 2, Len: 2}}
	head := raw("'lth1' 02 01 01 'w' 03 02 01 'z' 02 00 01")
	for keep, isKept := range []bool{false, true} {
		flag := string([]byte{byte(keep)})
		for text, is := range map[string]api.Type{"01": {Kind: 1}, "03 00": {Kind: 3}, "03 01": {Kind: 3, Param: 1}} {
			for _, a := range append(samples.Edges(), 0x01020304, 0x7f7fffff, 0x00ff00ff) {
				bytes := sealed(head + flag + raw(text) + string([]byte{byte(a), byte(a >> 8), byte(a >> 16), byte(a >> 24)}) + "\x00")
				if samples.IsTold(a) {
					holdTaken(t, bytes, api.Code{Sign: sign, Slots: []api.Slot{{Type: is, Keep: isKept, Bits: a}}})
				} else {
					holdRefused(t, bytes, errCode, 0)
				}
			}
		}
		for _, n := range []int{0, 1, 127, 128, 65536, maxCount - 1, maxCount} {
			holdTaken(t, sealed(head+flag+"\x02"+groups(n)+"\x00"), api.Code{Sign: sign, Slots: []api.Slot{{Type: api.Type{Kind: 2}, Keep: isKept, Int: n}}})
		}
	}
	c := usual("")
	holdTaken(t, made(`03 01 01 'w' 03 02 01 'z' 02 01 01 'u' 01  12 01 01 01 01 02 02 02 02 03 00 03 00 03 00 03 00 03 01 03 01 03 01 03 01 03 02 03 02
		0a 01 01 00000000 01 02 00 01 03 00 00000000 01 03 01 00000000 01 03 02 00000000
		00 01 00000080 00 02 09 00 03 00 0000c07f 00 03 01 000080ff 00 03 02 00000040 00`), c)
}

// wide is code with so many registers of each type that their numbers have two groups: 0 to 199 numbers, 200 to 399 whole numbers, 400 to
// 599 vectors of w, 600 to 799 of z; the first and the last of each are set.
func wide(text string) api.Code {
	c := usual("Number D0; Number D199; Whole D200; Whole D399; Grad D400; Grad D599; Grad D600; Grad D799;" + text)
	c.Regs = nil
	for _, is := range []api.Type{{Kind: 1}, {Kind: 2}, {Kind: 3}, {Kind: 3, Param: 1}} {
		c.Regs = append(c.Regs, slices.Repeat([]api.Type{is}, 200)...)
	}
	c.Slots = slices.Repeat([]api.Slot{{Type: c.Regs[600]}}, 300)
	return c
}

// TestInstructions: CO1 to CO3, of each kind just the fields that its row names, in their order, with numbers of one group and of two.
func TestInstructions(t *testing.T) {
	for text, want := range map[string]string{
		"Number D5 =04030201": "01 05 01020304", "Number D199": "01 c701 00000000", "Number D128 =7fc00000": "01 8001 0000c07f",
		"Whole D201 N127": "02 c901 7f", "Whole D399 N2147483647": "02 8f03 ffffffff07", "Whole D200": "02 c801 00",
		"Copy D7 A199": "03 07 c701", "Copy D401 A0": "03 9103 00", "Copy D201 A399": "03 c901 8f03",
		"Add D3 A199 B0": "04 03 c701 00", "Add D402 A0 B599": "04 9203 00 d704",
		"Sub D3 A199 B0": "05 03 c701 00", "Mul D3 A0 B199": "06 03 00 c701", "Div D3 A199 B0": "07 03 c701 00", "Min D3 A0 B199": "08 03 00 c701", "Max D3 A199 B0": "09 03 c701 00", "Less D3 A0 B199": "0a 03 00 c701",
		"Sqrt D3 A199": "0b 03 c701", "Neg D602 A799": "0c da04 9f06", "Abs D3 A0": "0d 03 00", "Finite D0 A199": "0e 00 c701",
		"Select D127 A0 B199 C0": "0f 7f 00 c701 00", "Select D405 A400 B0 C599": "0f 9503 9003 00 d704",
		"Power D3 A199 B399": "10 03 c701 8f03", "From D3 A200": "11 03 c801", "Test D201 A0": "12 c901 00", "Sum D3 A599": "13 03 d704", "Least D3 A600": "14 03 d804", "Inc D201 A399": "15 c901 8f03",
		"Less2 D201 A399 B200": "16 c901 8f03 c801", "Same D201 A200 B399": "17 c901 c801 8f03", "And D201 A399 B200": "18 c901 8f03 c801", "Not D201 A399": "19 c901 8f03",
		"Choose D201 A200 B399 C200": "1a c901 c801 8f03 c801", "Minus D201 A200 B399": "1b c901 c801 8f03", "Over D201 A399 B200": "1c c901 8f03 c801",
		"Grad D401": "1d 9103 00", "Grad D601 N1": "1d d904 01", "Param D402": "1e 9203 00", "Param D602 N1": "1e da04 01", "Out A599": "1f d704 00", "Out A799 N1": "1f 9f06 01",
		"Load D600 N299": "20 d804 ab02", "Load D799": "20 9f06 00", "Store A600 N127": "21 d804 7f", "Store A799 N299": "21 9f06 ab02",
		"When A399; End": "22 8f03 23", "Loop N1; Next": "24 01 25", "Loop N2; Next": "24 02 25", "When A200; Loop; Next; End": "22 c801 24 00 25 23",
	} {
		c := wide(text)
		b := encoded(t, c)
		holdTaken(t, b, c)
		without := encoded(t, wide(""))
		count := strings.LastIndex(without, raw("08 01 00 00000000"))
		if b != sealed(without[:count]+groups(len(c.List))+without[count+1:len(without)-8]+raw(want)) {
			t.Errorf("%s: %s, want %s", text, short(b[max(0, len(b)-60):]), want)
		}
	}
}

// TestEveryOp: CO1 to CO3, an instruction of each Op in one code, by the tests' own words.
func TestEveryOp(t *testing.T) {
	c := samples.EveryOp()
	holdTaken(t, wantBytes(c), c)
	holdTaken(t, wantBytes(wide("")), wide(""))
}
