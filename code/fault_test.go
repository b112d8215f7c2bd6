package code

import (
	"encoding/binary"
	"strings"
	"testing"

	"lathe/api"
	"lathe/ir"
	"lathe/samples"
)

// several are codes of some kinds, small ones.
func several() []api.Code {
	g := &samples.Grower{Source: 7}
	list := []api.Code{
		{}, usual(""), samples.EveryOp(), {Sign: usual("").Sign}, {Regs: []api.Type{{Kind: 1}, {Kind: 2}}}, {Slots: []api.Slot{{Type: api.Type{Kind: 2}, Int: maxCount}}},
		{Sign: []api.Param{{Name: nameOf(maxName, 1), Kind: 2, Len: 4096}}, Regs: []api.Type{{Kind: 3}}, List: samples.Read("Grad N1; Out N1")},
	}
	for range 20 {
		list = append(list, g.Code(12), g.SingleCode(12))
	}
	return list
}

// TestCut: CO2 and CO4, bytecode cut at every byte: the place is that of the part that it is cut within, or would have come next.
func TestCut(t *testing.T) {
	for _, c := range several() {
		b := encoded(t, c)
		for _, p := range partsOf(t, b) {
			for size := p.start; size < p.end; size++ {
				holdRefused(t, b[:size], errCut, p.start)
			}
		}
		holdTaken(t, b, c)
	}
}

// TestCutAndSealed: CO2, bytecode cut at every byte, with a fingerprint behind it: its bytes stand for the parts that are missing.
func TestCutAndSealed(t *testing.T) {
	for _, c := range several() {
		b := encoded(t, c)
		for size := range len(b) {
			hold(t, sealed(b[:size]))
		}
	}
}

// TestChanged: CO2 to CO4, each byte of bytecode changed to each other one, of longer ones to some: all are refused; with the right
// fingerprint they are what they say.
func TestChanged(t *testing.T) {
	taken := 0
	for n, c := range several() {
		b := encoded(t, c)
		for at := range len(b) {
			for other := range 256 {
				if n >= 2 && other%16 != at%16 || b[at] == byte(other) {
					continue
				}
				changed := b[:at] + string([]byte{byte(other)}) + b[at+1:]
				if hold(t, changed) == api.OK {
					t.Errorf("%s is taken", short(changed))
				}
				if at < len(b)-8 && hold(t, sealed(changed[:len(b)-8])) == api.OK {
					taken++
				}
			}
		}
	}
	if taken < 5000 {
		t.Errorf("only %d are taken", taken)
	}
}

// TestBounds: CO2, each of the five numbers that have a bound: at it the next part is asked for, above it ErrLong is told whatever follows.
func TestBounds(t *testing.T) {
	for _, x := range []struct {
		ahead string
		most  int
	}{{"", 64}, {"01 01", 64}, {"01 02", 64}, {"02 01 01 'w' 01 01", 64}, {"00", 16384}, {"01 01 01 'w' 01", 16384}, {"00 00", 4096}, {"00 02 01 01", 4096}, {"00 00 00", 32768}, {"00 01 01 01 00 02 05", 32768}} {
		ahead := "lth1" + raw(x.ahead)
		for _, n := range []int{x.most - 1, x.most} {
			holdRefused(t, ahead+groups(n), errCut, len(ahead)+len(groups(n)))
		}
		for _, n := range []int{x.most + 1, x.most + 2, 2 * x.most, 2*x.most + 1, 1 << 16, 1<<16 + 1, 1 << 31, 1 << 32, 1<<32 + 1, 1<<62 + 1, 1<<63 - 1} {
			for _, behind := range []string{"", "\x00", "\xff", strings.Repeat("\x01", 1000)} {
				holdRefused(t, ahead+groups(n)+behind, errLong, len(ahead))
				holdRefused(t, sealed(ahead+groups(n)+behind), errLong, len(ahead))
			}
		}
	}
}

// TestBytesThatMayNotBe: CO2, all bytes of a parameter's Kind, of Keep, of a type's Kind and of an Op, wherever they stand.
func TestBytesThatMayNotBe(t *testing.T) {
	for _, x := range []struct {
		ahead     string
		low, high int
	}{
		{"01", 1, 2}, {"02 02 01 'w' 01", 1, 2}, {"00 01", 1, 3}, {"00 03 01 02", 1, 3}, {"01 01 01 'w' 01 02 03 00", 1, 3}, {"00 00 01", 0, 1}, {"00 00 02 00 02 01", 0, 1},
		{"00 00 01 00", 1, 3}, {"00 00 02 01 01 00000000 01", 1, 3}, {"00 00 00 01", 1, 37}, {"00 00 00 02 23", 1, 37},
	} {
		ahead := "lth1" + raw(x.ahead)
		for b := range 256 {
			bytes := ahead + string([]byte{byte(b)})
			if b < x.low || b > x.high {
				holdRefused(t, bytes, errForm, len(ahead))
				holdRefused(t, sealed(bytes), errForm, len(ahead))
				holdRefused(t, bytes+"\x80\x00", errForm, len(ahead))
				continue
			}
			if _, e, at := Decode(bytes); e != errCut || at != len(bytes) {
				t.Errorf("Decode(%s) = %d, %d", short(bytes), e, at)
			}
		}
		holdRefused(t, ahead, errCut, len(ahead))
	}
}

// TestOtherFingerprint: CO2, another fingerprint: of other bytes, turned round, the highest byte first, without what is done at the end.
func TestOtherFingerprint(t *testing.T) {
	for _, c := range several() {
		b := encoded(t, c)
		start := len(b) - 8
		sum := library(b[:start])
		for _, other := range []uint64{0, 1, ^uint64(0), ^sum, sum + 1, sum - 1, sum ^ 1<<63, sum ^ 1, library(""), library(b), library(b[:start-1]), library(b[4:start]), library(b[:start] + "\x00")} {
			holdRefused(t, string(binary.LittleEndian.AppendUint64([]byte(b[:start]), other)), errSum, start)
		}
		holdRefused(t, string(binary.BigEndian.AppendUint64([]byte(b[:start]), sum)), errSum, start)
	}
}

// TestBehind: CO2, more bytes behind the fingerprint; one that is another is told first.
func TestBehind(t *testing.T) {
	for _, c := range several() {
		b := encoded(t, c)
		for _, more := range []string{"\x00", "x", "\xff", "lth1", b, b[len(b)-8:], strings.Repeat("\x00", 5000)} {
			holdRefused(t, b+more, errBehind, len(b))
			holdRefused(t, sealed(b+more), errBehind, len(b))
			other := b[:len(b)-1] + string([]byte{b[len(b)-1] ^ 64})
			holdRefused(t, other+more, errSum, len(b)-8)
		}
	}
}

// TestNotWellFormed: CO2 and CO5, bytes that are right but for ir.Check: its error, without its place; what stands behind the bytes, or
// another fingerprint, is told ahead of it.
func TestNotWellFormed(t *testing.T) {
	for text, want := range map[string]api.Errno{
		"01 01 01 'w' 00 00 00 00": errParam, "01 01 01 'w' 8120 00 00 00": errParam, "01 01 01 ' ' 01 00 00 00": errParam, "01 02 00 01 00 00 00": errParam,
		"02 01 01 'w' 01 01 01 'w' 01 00 00 00": errTwice, "00 01 03 00 00 00": errCode, "00 00 01 01 01 010080ff 00": errCode, "00 00 01 00 01 0100c07f 00": errCode, "00 00 01 00 02 8080808008 00": errCode,
		"00 00 01 00 03 00 00000000 00": errCode, "00 00 00 01 23": errCode, "00 00 00 01 25": errCode, "00 00 00 01 24 00": errCode, "00 00 00 01 01 00 00000000": errCode, "00 01 01 00 01 01 01 00000000": errCode,
		"00 01 01 00 01 01 00 0000c0ff": errCode, "00 01 02 00 01 02 00 8080808008": errCode, "00 01 01 00 01 0c 00 00": errCode, "00 01 02 00 02 02 00 01 22 00": errCode, "00 01 01 00 01 20 00 00": errCode,
		"01 01 01 'w' 01 01 03 00 00 01 1d 00 01": errCode, "01 01 01 'w' 01 01 03 00 00 02 1d 00 00 1f 00 01": errCode, "01 01 01 'w' 01 00 00 02 24 01 25": errCode,
	} {
		b := made(text)
		holdRefused(t, b, want, 0)
		holdRefused(t, b+"\x00", errBehind, len(b))
		holdRefused(t, b[:len(b)-1]+string([]byte{b[len(b)-1] + 1}), errSum, len(b)-8)
		holdRefused(t, b[:len(b)-1], errCut, len(b)-8)
	}
	seen := map[api.Errno]int{}
	for _, c := range samples.Broken() {
		b, isWritten := written(c)
		if !isWritten {
			continue
		}
		e, _ := ir.Check(c)
		holdRefused(t, b, e, 0)
		seen[e]++
	}
	if seen[errCode] < 30 || seen[errParam] == 0 || seen[errTwice] == 0 || seen[errTotal] == 0 || len(seen) != 4 {
		t.Errorf("%v", seen)
	}
}

// written is code that is not well formed as bytes, if there are such.
func written(c api.Code) (string, bool) {
	for _, i := range c.List {
		if i.Op < 1 || i.Op > 37 {
			return "", false
		}
	}
	b := wantBytes(c)
	d, s := scanned(b)
	return b, s.e == api.OK && ir.Equal(c, d)
}

// A harm is what can be done to a part: the bytes that stand there then, and the error.
type harm struct {
	by string
	e  api.Errno
}

// harms are those of a part.
func harms(p part) []harm {
	bounds, isSingle := single[p.what]
	most, isCounted := counted[p.what]
	switch {
	case p.what == "mark":
		return []harm{{"lth\x01", errMark}, {"xth1", errMark}}
	case isSingle:
		return []harm{{string([]byte{byte(bounds[1] + 1)}), errForm}, {"\xff", errForm}, {"\x80", errForm}}
	case isCounted:
		return []harm{{groups(most + 1), errLong}, {"\x80\x00", errForm}, {strings.Repeat("\xff", 9) + "\x01", errForm}}
	case p.isNumber():
		return []harm{{"\x80\x00", errForm}, {"\x81\x80\x00", errForm}, {strings.Repeat("\x80", 9) + "\x01", errForm}}
	}
	return nil
}

// TestFirstFault: CO2, of several faults the first one is told: a part ahead of all that stand behind it, a cut, another fingerprint, bytes
// behind it, or code that is not well formed.
func TestFirstFault(t *testing.T) {
	b := encoded(t, samples.EveryOp())
	parts := partsOf(t, b)
	for n, p := range parts {
		for k, h := range harms(p) {
			ahead := b[:p.start] + h.by
			holdRefused(t, ahead, h.e, p.start)
			holdRefused(t, ahead+b[p.end:], h.e, p.start)
			holdRefused(t, ahead+b[p.end:]+"x", h.e, p.start)
			holdRefused(t, ahead+strings.Repeat("\xff", 50), h.e, p.start)
			holdRefused(t, ahead+"\x00", h.e, p.start)
			for _, q := range parts[n+1:] {
				for _, other := range harms(q)[:min(1+k, len(harms(q)))] {
					holdRefused(t, sealed(ahead+b[p.end:q.start]+other.by+b[q.end:len(b)-8]), h.e, p.start)
				}
			}
		}
	}
}
