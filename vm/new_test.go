package vm

import (
	"slices"
	"strings"
	"testing"

	"lathe/api"
	"lathe/code"
	"lathe/samples"
	"lathe/verify"
)

// holdNone: VM1 and rule 2, New answers that error and no machine.
func holdNone(t *testing.T, b string, want api.Errno) {
	t.Helper()
	if m, e := New(b); m != nil || e != want {
		t.Errorf("New(%.200q) = %v, %d, want %d", b, m, e, want)
	}
}

// sealed is bytes with their fingerprint behind them.
func sealed(b string) string {
	var print []byte
	for sum, k := code.Print(b), 0; k < 8; k++ {
		print = append(print, byte(sum>>(8*k)))
	}
	return b + string(print)
}

// several are codes of some kinds, small ones.
func several() []api.Code {
	g := &samples.Grower{Source: 2}
	list := []api.Code{{}, usual(""), samples.EveryOp(), {Sign: usual("").Sign}, {Regs: []api.Type{{Kind: 1}, {Kind: 2}}}, {Slots: []api.Slot{{Type: api.Type{Kind: 2}, Int: maxCount}}}}
	for range 12 {
		list = append(list, g.Code(12), g.SingleCode(12))
	}
	return list
}

// TestNoMark: VM1, of the empty string, and of bytes without the mark.
func TestNoMark(t *testing.T) {
	for _, b := range []string{"", "l", "lt", "lth", "lth1"} {
		holdNone(t, b, errCut)
	}
	for _, b := range []string{"\x00", "x", "L", "lx", "lthx", "lth2", "lth\x00", " lth1", "\xff\xff\xff\xff", strings.Repeat("\x00", 1000)} {
		holdNone(t, b, errMark)
	}
	for _, c := range several() {
		b := encoded(t, c)
		for _, other := range []string{b[1:], b[4:], "lth0" + b[4:], "1htl" + b[4:], "\x00" + b, sealed("lth2" + b[4:len(b)-8])} {
			holdNone(t, other, errMark)
		}
	}
}

// TestCut: VM1, bytecode cut at every place.
func TestCut(t *testing.T) {
	for _, c := range several() {
		b := encoded(t, c)
		for size := range len(b) {
			holdNone(t, b[:size], errCut)
		}
		begin(t, c)
	}
}

// TestBitTurned: VM1 and P7, each bit of bytecode turned, and with it some of those behind it: code.Decode's error.
func TestBitTurned(t *testing.T) {
	g := &samples.Grower{Source: 3}
	for _, c := range several() {
		b := encoded(t, c)
		for bit := range 8 * len(b) {
			changed := []byte(b)
			changed[bit/8] ^= 1 << (bit % 8)
			if g.Below(2) == 0 {
				other := min(bit+1+g.Below(63), 8*len(b)-1)
				changed[other/8] ^= 1 << (other % 8)
			}
			if string(changed) == b {
				continue
			}
			_, e, _ := code.Decode(string(changed))
			if e == api.OK || bit >= 8*(len(b)-8) && e != errSum {
				t.Errorf("Decode = %d", e)
			}
			holdNone(t, string(changed), e)
		}
	}
}

// TestBehind: VM1, bytes behind the end.
func TestBehind(t *testing.T) {
	for _, c := range several() {
		b := encoded(t, c)
		for _, more := range []string{"\x00", "x", "lth1", b, b[len(b)-8:], strings.Repeat("\xff", 3000)} {
			holdNone(t, b+more, errBehind)
			holdNone(t, sealed(b+more), errBehind)
		}
	}
}

// TestFaultyParts: VM1, parts that may not be, beneath a right fingerprint.
func TestFaultyParts(t *testing.T) {
	for body, want := range map[string]api.Errno{
		"\x80\x00": errForm, "\x41": errLong, "\x01\x03\x01w\x01\x00\x00\x00": errForm, "\x01\x01\x41": errLong, "\x00\x81\x80\x01": errLong, "\x00\x01\x04\x00\x00": errForm,
		"\x00\x00\x81\x20": errLong, "\x00\x00\x01\x02\x01\x00\x00\x00\x00\x00": errForm, "\x00\x00\x00\x81\x80\x02": errLong, "\x00\x00\x00\x01\x26": errForm, "\x00\x00\x00\x01\x00": errForm,
		"\x00\x00\x00\x02\x23": errForm,
	} {
		holdNone(t, sealed("lth1"+body), want)
	}
}

// TestNotWellFormed: VM1, code that is not well formed beneath a right fingerprint.
func TestNotWellFormed(t *testing.T) {
	for body, want := range map[string]api.Errno{
		"\x01\x01\x01w\x00\x00\x00\x00": errParam, "\x01\x01\x01w\x81\x20\x00\x00\x00": errParam, "\x01\x02\x00\x01\x00\x00\x00": errParam, "\x01\x01\x01 \x01\x00\x00\x00": errParam,
		"\x02\x01\x01w\x01\x01\x01w\x01\x00\x00\x00": errTwice, "\x00\x01\x03\x00\x00\x00": errCode, "\x00\x00\x01\x01\x01\x01\x00\x80\xff\x00": errCode,
		"\x00\x00\x01\x00\x02\x80\x80\x80\x80\x08\x00": errCode, "\x00\x00\x00\x01\x23": errCode, "\x00\x00\x00\x01\x25": errCode, "\x00\x00\x00\x01\x24\x00": errCode,
		"\x00\x00\x00\x01\x01\x00\x00\x00\x00\x00": errCode, "\x00\x01\x01\x00\x01\x0c\x00\x00": errCode, "\x00\x01\x01\x00\x01\x01\x00\x00\x00\xc0\xff": errCode,
		"\x00\x01\x02\x00\x01\x02\x00\x80\x80\x80\x80\x08": errCode, "\x00\x01\x02\x00\x02\x02\x00\x01\x22\x00": errCode, "\x00\x01\x01\x00\x01\x20\x00\x00": errCode,
		"\x01\x01\x01w\x01\x01\x03\x00\x00\x01\x1d\x00\x01": errCode, "\x01\x01\x01w\x01\x00\x00\x02\x24\x01\x25": errCode,
		"\x11" + greatParams(17) + "\x00\x00\x00": errTotal, "\x40" + greatParams(64) + "\x00\x00\x00": errTotal,
	} {
		b := sealed("lth1" + body)
		holdNone(t, b, want)
		holdNone(t, b+"\x00", errBehind)
		holdNone(t, b[:len(b)-1], errCut)
		holdNone(t, b[:len(b)-1]+string([]byte{b[len(b)-1] ^ 1}), errSum)
	}
}

// greatParams are so many parameters of 4096 elements as bytes.
func greatParams(count int) string {
	text := ""
	for n := range count {
		text += "\x01\x02" + string([]byte{byte('a' + n/8), byte('a' + n%8)}) + "\x80\x20"
	}
	return text
}

// wide is code with so many registers and slots of 4096 elements, and more that hold one number each.
func wide(regs, slots, more int) api.Code {
	c := api.Code{Sign: []api.Param{{Name: "w", Kind: 1, Len: maxLen}}, Regs: slices.Repeat([]api.Type{{Kind: 3}}, regs), Slots: slices.Repeat([]api.Slot{{Type: api.Type{Kind: 3}}}, slots)}
	for n := range more {
		c.Regs = append(c.Regs, api.Type{Kind: 1 + n%2})
	}
	return c
}

// TestRoom: VM1, code whose room is 2^24 is taken; with one more it is not, be it a number, a whole number or a vector, a register or a slot.
func TestRoom(t *testing.T) {
	for _, c := range []api.Code{wide(4096, 0, 0), wide(0, 4096, 0), wide(2000, 2096, 0), wide(4095, 0, 4096), wide(3000, 1095, 4096)} {
		if room, e := verify.Room(c); room != mostRoom || e != api.OK {
			t.Fatalf("the test is wrong: %d, %d", room, e)
		}
		m := begin(t, c)
		grads := [][]api.F{make([]api.F, maxLen)}
		if u := stepped(t, m, grads, grads); len(u) != 1 || len(u[0]) != maxLen {
			t.Error("no updates")
		}
		for _, is := range []api.Type{{Kind: 1}, {Kind: 2}, {Kind: 3}} {
			d := samples.CloneCode(c)
			d.Regs = append(d.Regs, is)
			holdNone(t, encoded(t, d), errRoom)
			if len(c.Slots) < maxSlots {
				d = samples.CloneCode(c)
				d.Slots = append(d.Slots, api.Slot{Type: is, Keep: true})
				holdNone(t, encoded(t, d), errRoom)
			}
		}
	}
	holdNone(t, encoded(t, wide(maxRegs, maxSlots, 0)), errRoom)
	begin(t, wide(0, 0, maxRegs))
}

// TestFirstError: VM1, of several errors the first one is told: code.Decode's ahead of ErrRoom.
func TestFirstError(t *testing.T) {
	b := encoded(t, wide(5000, 0, 1))
	holdNone(t, b, errRoom)
	holdNone(t, b+"x", errBehind)
	holdNone(t, b[:len(b)-1], errCut)
	holdNone(t, b[:len(b)-1]+string([]byte{b[len(b)-1] ^ 128}), errSum)
	holdNone(t, "x"+b[1:], errMark)
	c := wide(5000, 0, 0)
	c.List = read("Whole D5000; When A5000; End")
	c.Regs = append(c.Regs, api.Type{Kind: 2})
	b = encoded(t, c)
	holdNone(t, b, errRoom)
	at := len(b) - 8 - 1 // the OpEnd
	holdNone(t, sealed(b[:at]+"\x25"), errCode)
	holdNone(t, sealed(b[:at]+"\x26"), errForm)
}

// holdAny: VM1, VM4, P6 and rule 1, whatever the bytes are, New tells code.Decode's error, or verify.Check's, or a machine that does steps as
// the interpreter does. It answers the error.
func holdAny(t *testing.T, g *samples.Grower, b string) api.Errno {
	t.Helper()
	c, want, _ := code.Decode(b)
	if want == api.OK {
		want = verify.Check(c)
	}
	if want != api.OK {
		holdNone(t, b, want)
		return want
	}
	if weight(c) > 1<<16 {
		return api.OK
	}
	holdTwin(t, g, c, 2)
	return api.OK
}

// weight is how much work a twin of the code would be.
func weight(c api.Code) int {
	room, _ := verify.Room(c)
	cost, _ := verify.Cost(c)
	for _, p := range c.Sign {
		room += p.Len
	}
	return room + cost
}

// mixed is bytes made of pieces of others, with some changed, left out, put in and done twice.
func mixed(g *samples.Grower, b, other string) string {
	for range 1 + g.Below(3) {
		at := g.Below(len(b) + 1)
		end := min(len(b), at+g.Below(9))
		switch g.Below(6) {
		case 0:
			b = b[:at] + b[end:]
		case 1:
			b = b[:end] + b[at:]
		case 2:
			from := g.Below(len(other) + 1)
			b = b[:at] + other[from:min(len(other), from+g.Below(9))] + b[at:]
		default:
			if at < len(b) {
				b = b[:at] + string([]byte{[]byte{0, 1, 2, 3, 127, 128, 255, b[at] + 1, b[at] - 1, byte(g.Next() >> 9)}[g.Below(10)]}) + b[at+1:]
			}
		}
	}
	return b
}

// TestMixed: VM1, VM4 and P6, bytes that were bytecode once, alone and with their fingerprint.
func TestMixed(t *testing.T) {
	g, seen := &samples.Grower{Source: 4}, map[api.Errno]int{}
	for range 15000 {
		b, other := encoded(t, g.Code(20)), encoded(t, g.Code(20))
		b = mixed(g, b[:len(b)-8], other)
		holdAny(t, g, b+other[len(other)-8:])
		seen[holdAny(t, g, sealed(b))]++
	}
	for _, e := range []api.Errno{api.OK, errMark, errCut, errForm, errLong, errSum, errParam, errTwice, errCode} {
		if seen[e] == 0 {
			t.Errorf("no bytes have the error %d: %v", e, seen)
		}
	}
	if seen[api.OK] < 500 {
		t.Errorf("%v", seen)
	}
}

// TestAnyBytes: VM1, P6 and rule 1, any bytes whatever: of all, of low ones, of bits.
func TestAnyBytes(t *testing.T) {
	g, taken := &samples.Grower{Source: 5}, 0
	for n := range 40000 {
		var b strings.Builder
		if n%4 > 0 {
			b.WriteString("lth1")
		}
		mask := []byte{255, 63, 3, 1, 129}[g.Below(5)]
		for range g.Below(60) {
			b.WriteByte(byte(g.Next()>>9) & mask)
		}
		holdAny(t, g, b.String())
		if holdAny(t, g, sealed(b.String())) == api.OK {
			taken++
		}
	}
	if taken < 10 {
		t.Errorf("only %d were taken", taken)
	}
}
