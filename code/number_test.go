package code

import (
	"encoding/binary"
	"strings"
	"testing"

	"lathe/api"
	"lathe/samples"
)

// ints are whole numbers about each power of two, up to the greatest.
func ints() []int {
	list := []int{0}
	for k := range 63 {
		for _, n := range []int{1<<k - 1, 1 << k, 1<<k + 1, 1<<k + 1<<k/3} {
			list = append(list, n)
		}
	}
	return append(list, 1<<63-2, 1<<63-1)
}

func groups(n int) string { return string(binary.AppendUvarint(nil, uint64(n))) }

// beginning is bytecode in whose only slot a whole number begins with these bytes.
func beginning(bytes string) string { return sealed("lth1\x00\x00\x01\x01\x02" + bytes + "\x00") }

// TestNumbers: CO1 to CO3, numbers of one group to nine. Those that may stand there are told so and read back, the others come as far as
// ir.Check.
func TestNumbers(t *testing.T) {
	for n, want := range map[int]string{
		0: "00", 1: "01", 127: "7f", 128: "8001", 129: "8101", 255: "ff01", 300: "ac02", 16383: "ff7f", 16384: "808001", 1<<21 - 1: "ffff7f", 1 << 21: "80808001",
		1 << 28: "8080808001", maxCount: "ffffffff07", 1 << 31: "8080808008", 1 << 35: "808080808001", 1 << 42: "80808080808001", 1 << 49: "8080808080808001", 1<<56 - 1: "ffffffffffffff7f",
		1 << 56: "808080808080808001", 1<<63 - 1: "ffffffffffffffff7f",
	} {
		if groups(n) != raw(want) {
			t.Errorf("%d: %s", n, short(groups(n)))
		}
	}
	for _, n := range ints() {
		if b := beginning(groups(n)); n <= maxCount {
			holdTaken(t, b, api.Code{Slots: []api.Slot{{Type: api.Type{Kind: 2}, Keep: true, Int: n}}})
		} else {
			holdRefused(t, b, errCode, 0)
		}
	}
}

// TestGroupTooMany: CO2, numbers of every count of groups with one more that says nothing, or several.
func TestGroupTooMany(t *testing.T) {
	for _, n := range ints() {
		longer := []byte(groups(n))
		longer[len(longer)-1] |= 128
		for more := range 12 {
			holdRefused(t, beginning(string(longer)+strings.Repeat("\x80", more)+"\x00"), errForm, 9)
		}
	}
}

// TestAboveNumbers: CO2, 2^63 and what is above it, up to numbers of far more groups; the groups ahead of the last say this or that.
func TestAboveNumbers(t *testing.T) {
	for _, ahead := range []string{"\x80", "\xff", "\x81", "\xc0"} {
		for count := 9; count < 40; count++ {
			for last := range 128 {
				holdRefused(t, beginning(strings.Repeat(ahead, count)+string([]byte{byte(last)})), errForm, 9)
			}
		}
	}
	holdRefused(t, beginning(raw("808080808080808080 01")), errForm, 9) // 2^63
	holdRefused(t, beginning(raw("ffffffffffffffffff 01")), errForm, 9) // 2^64 - 1
	holdRefused(t, beginning(raw("808080808080808080 02")), errForm, 9) // 2^64, which is 0 in 64 bits
	holdRefused(t, beginning(raw("858080808080808080 02")), errForm, 9)
	holdRefused(t, beginning(strings.Repeat("\x80", 100000)+"\x01"), errForm, 9)
}

// TestNumberThatEnds: CO2, bytes that end within a number. Where they go on beyond the ninth group, the tenth is too many, whatever follows.
func TestNumberThatEnds(t *testing.T) {
	for _, group := range []string{"\x80", "\xff", "\x81"} {
		for count := range 30 {
			want := errCut
			if count >= 10 {
				want = errForm
			}
			holdRefused(t, "lth1"+strings.Repeat(group, count), want, 4)
			holdRefused(t, raw("'lth1' 00 00 01 01 02")+strings.Repeat(group, count), want, 9)
		}
	}
}

// TestEveryNumber: CO2, each number of bytecode by itself, whatever it tells: with a group too many, above the greatest, and the greatest
// that may be, which is no other one when its high bits are left out.
func TestEveryNumber(t *testing.T) {
	b := encoded(t, samples.EveryOp())
	for _, p := range partsOf(t, b) {
		if !p.isNumber() {
			continue
		}
		longer := []byte(p.is(b))
		longer[len(longer)-1] |= 128
		holdRefused(t, p.with(b, string(longer)+"\x00"), errForm, p.start)
		holdRefused(t, p.with(b, string(longer)+strings.Repeat("\x80", 7)+"\x00"), errForm, p.start)
		holdRefused(t, p.with(b, string(longer)+strings.Repeat("\x80", 9)+"\x00"), errForm, p.start)
		holdRefused(t, p.with(b, raw("808080808080808080 01")), errForm, p.start)
		holdRefused(t, p.with(b, raw("ffffffffffffffffff 01")), errForm, p.start)
		n, _ := binary.Uvarint([]byte(p.is(b)))
		for _, high := range []int{1<<63 - 1, int(n) + 1<<16, int(n) + 1<<31, int(n) + 1<<32, int(n) + 1<<62} {
			_, isCounted := counted[p.what]
			switch {
			case isCounted:
				holdRefused(t, p.with(b, groups(high)), errLong, p.start)
			case p.what == "len":
				holdRefused(t, p.with(b, groups(high)), errParam, 0)
			case p.what != "int" && (p.what != "N" || n != 300) || high > maxCount:
				holdRefused(t, p.with(b, groups(high)), errCode, 0)
			}
		}
	}
}
