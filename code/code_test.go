package code

import (
	"encoding/binary"
	"encoding/hex"
	"hash/crc64"
	"strings"
	"testing"

	"lathe/api"
	"lathe/ir"
	"lathe/samples"
)

// The document's numbers once more, so that a change of package api is seen.
const (
	errLong   api.Errno = 2
	errParam  api.Errno = 100
	errTwice  api.Errno = 101
	errTotal  api.Errno = 102
	errCode   api.Errno = 160
	errSlots  api.Errno = 180
	errSize   api.Errno = 181
	errMark   api.Errno = 240
	errSum    api.Errno = 241
	errCut    api.Errno = 242
	errForm   api.Errno = 243
	errBehind api.Errno = 244

	maxName   = 64
	maxParams = 64
	maxRegs   = 1 << 14
	maxSlots  = 1 << 12
	maxCode   = 1 << 15
	maxNest   = 64
	maxCount  = 1<<31 - 1
)

// usual is the usual code of the tests: its registers 0 to 3 are numbers, 4 to 7 whole numbers, 8 to 11 vectors of w, 12 to 15 of z, 16
// and 17 of u. The slots 0 to 4 are kept, 5 to 9 are not: a number, a whole number, vectors of w, z, u.
func usual(text string) api.Code { return samples.Usual(text) }

// raw is bytes written as hexadecimal digits, and as letters between apostrophes: "01 'w' 8001".
func raw(text string) string {
	var list []byte
	for n, piece := range strings.Split(text, "'") {
		if n%2 == 1 {
			list = append(list, piece...)
			continue
		}
		b, err := hex.DecodeString(strings.Join(strings.Fields(piece), ""))
		if err != nil {
			panic("a test is written wrongly: " + text)
		}
		list = append(list, b...)
	}
	return string(list)
}

// library is the fingerprint as Go's library reckons it.
func library(b string) uint64 {
	return crc64.Checksum([]byte(b), crc64.MakeTable(crc64.ECMA))
}

// sealed is bytes with their fingerprint behind them.
func sealed(b string) string {
	return string(binary.LittleEndian.AppendUint64([]byte(b), library(b)))
}

// made is bytecode by hand: the mark, what is written, the fingerprint.
func made(text string) string { return sealed("lth1" + raw(text)) }

// short is bytes as digits, of many the beginning and the end.
func short(b string) string {
	if len(b) > 120 {
		return hex.EncodeToString([]byte(b[:60])) + ".." + hex.EncodeToString([]byte(b[len(b)-60:]))
	}
	return hex.EncodeToString([]byte(b))
}

// encoded is what Encode tells of code that is well formed.
func encoded(t *testing.T, c api.Code) string {
	t.Helper()
	b, e := Encode(c)
	if e != api.OK {
		t.Fatalf("Encode = %d: %s", e, samples.Show(c))
	}
	return b
}

// isNone tells whether a code is the zero one.
func isNone(c api.Code) bool {
	return c.Sign == nil && c.Regs == nil && c.Slots == nil && c.List == nil
}

// holdTaken: CO1 to CO3, these bytes are the bytecode of that code, and it is theirs.
func holdTaken(t *testing.T, b string, c api.Code) {
	t.Helper()
	if got, e := Encode(c); got != b || e != api.OK {
		t.Errorf("Encode = %s, %d, want %s: %s", short(got), e, short(b), samples.Show(c))
	}
	if d, e, at := Decode(b); !ir.Equal(d, c) || e != api.OK || at != 0 {
		t.Errorf("Decode(%s) = %s, %d, %d, want %s", short(b), samples.Show(d), e, at, samples.Show(c))
	}
}

// holdRefused: CO2 and rule 2, of these bytes that error is told with that place, and nothing beside it.
func holdRefused(t *testing.T, b string, want api.Errno, place int) {
	t.Helper()
	if c, e, at := Decode(b); e != want || at != place || !isNone(c) {
		t.Errorf("Decode(%s) = %s, %d, %d, want %d, %d", short(b), samples.Show(c), e, at, want, place)
	}
}

// TestExamples: CO1 to CO3, those of the chapter.
func TestExamples(t *testing.T) {
	empty := sealed(raw("6C 74 68 31 00 00 00 00"))
	holdTaken(t, empty, api.Code{})
	if len(empty) != 16 {
		t.Errorf("%d bytes", len(empty))
	}
	holdRefused(t, empty[:3], errCut, 0)
	holdRefused(t, empty[:6], errCut, 6)
	holdRefused(t, "lth2"+empty[4:], errMark, 0)
	holdRefused(t, "lth1\x80"+empty[5:], errForm, 4)
	holdRefused(t, empty+"x", errBehind, 16)
	holdRefused(t, empty[:15]+"\x00", errSum, 8)
	w := api.Code{Sign: []api.Param{{Name: "w", Kind: 1, Len: 3}}}
	holdTaken(t, made("01 01 01 77 03 00 00 00"), w)
	if b := encoded(t, w); b[4:9] != raw("01 01 01 77 03") {
		t.Errorf("%s", short(b))
	}
}

// TestWhole: CO1 to CO3, a code with all parts, byte by byte.
func TestWhole(t *testing.T) {
	c := api.Code{
		Sign:  []api.Param{{Name: "w", Kind: 1, Len: 300}, {Name: "b/c", Kind: 2, Len: 127}},
		Regs:  []api.Type{{Kind: 1}, {Kind: 2}, {Kind: 3}, {Kind: 3, Param: 1}},
		Slots: []api.Slot{{Type: api.Type{Kind: 1}, Keep: true, Bits: 0x3f800001}, {Type: api.Type{Kind: 2}, Int: 128}, {Type: api.Type{Kind: 3, Param: 1}, Bits: 0x7fc00000}},
		List:  samples.Read("Number D0 =80000000; Load D1 N1; When A1; Param D3 N1; Mul D3 A3 B0; Out A3 N1; End; Loop; Grad D2; Out A2; Next"),
	}
	holdTaken(t, made(`02  01 01 'w' ac02  02 03 'b/c' 7f
		04  01  02  03 00  03 01
		03  01 01 0100803f  00 02 8001  00 03 01 0000c07f
		0b  01 00 00000080  20 01 01  22 01  1e 03 01  06 03 03 00  1f 03 01  23  24 00  1d 02 00  1f 02 00  25`), c)
}
