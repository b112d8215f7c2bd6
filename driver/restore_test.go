package driver

import (
	"encoding/binary"
	"slices"
	"strings"
	"testing"

	"lathe/api"
	"lathe/samples"
)

// kept is bytecode that keeps a whole number ahead of the two numbers of a vector, and a session of it behind three steps.
func kept(t *testing.T) (string, *Session) {
	t.Helper()
	b := compiled(t, "chain(scale_by_schedule(linear(1.0, 0.0, 9)), trace(0.5))", real(2), 0)
	s := opened(t, b)
	for range 3 {
		stepped(t, s, [][]api.F{{one, two}}, [][]api.F{{0, 0}})
	}
	if count, state := numbersOf(s.Snapshot()); count != 3 || len(state) != 3 || state[0] != 3 {
		t.Fatalf("the count is %d, the state %08x", count, state)
	}
	return b, s
}

// with is a snapshot in which four bytes from a place on are a number, with or without a right sum.
func with(b string, at int, x uint32, isSummed bool) string {
	changed := []byte(b)
	binary.LittleEndian.PutUint32(changed[at:], x)
	if isSummed {
		return summed(changed[:len(changed)-8])
	}
	return string(changed)
}

// A damage spoils a snapshot so that Restore has this error of it.
type damage struct {
	name string
	want api.Errno
	do   func(b string) string
}

// Where the parts of a snapshot stand.
const (
	atPrint = 6
	atCount = 14
	atSize  = 18
	atState = 22
)

// damages are some for each error. The sum stays right, but where it is what is spoilt, or something is told ahead of it.
func damages() []damage {
	set := func(at int, x uint32) func(b string) string {
		return func(b string) string { return with(b, at, x, true) }
	}
	size := func(more int) func(b string) string {
		return func(b string) string {
			return with(b, atSize, binary.LittleEndian.Uint32([]byte(b)[atSize:])+uint32(more), true)
		}
	}
	return []damage{
		{"nothing", errCut, func(b string) string { return "" }},
		{"29 bytes", errCut, func(b string) string { return b[:29] }},
		{"another mark", errMark, func(b string) string { return "LATHT" + b[5:] }},
		{"another mark, summed", errMark, func(b string) string { return summed([]byte("lathS\x01" + b[6:len(b)-8])) }},
		{"another version", errMark, func(b string) string { return summed([]byte("LATHS\x02" + b[6:len(b)-8])) }},
		{"a number more than there are", errCut, size(1)},
		{"as many as can be said", errCut, set(atSize, 1<<32-1)},
		{"as many as bytes may be", errCut, set(atSize, 1<<30)},
		{"as many as make the bytes go round", errCut, set(atSize, 1<<30+3)},
		{"cut by one", errCut, func(b string) string { return b[:len(b)-1] }},
		{"a number less than there are", errBehind, size(-1)},
		{"none", errBehind, set(atSize, 0)},
		{"a byte more", errBehind, func(b string) string { return b + "\x00" }},
		{"twice", errBehind, func(b string) string { return b + b }},
		{"another last byte", errSum, func(b string) string { return b[:len(b)-1] + string([]byte{b[len(b)-1] ^ 0x80}) }},
		{"another first byte of the sum", errSum, func(b string) string { return turned(b, 8*(len(b)-8), 1) }},
		{"another fingerprint", errPrint, set(atPrint, 0)},
		{"another fingerprint's end", errPrint, set(atPrint+4, 12345)},
		{"a count too great", errForm, set(atCount, maxCount+1)},
		{"the greatest that can be said", errForm, set(atCount, 1<<32-1)},
		{"a whole number too great", errForm, set(atState, maxCount+1)},
		{"the greatest whole number that can be said", errForm, set(atState, 1<<32-1)},
		{"a number too few", errForm, func(b string) string {
			b = b[:atState] + b[atState+4:]
			return size(-1)(b)
		}},
		{"no numbers", errForm, func(b string) string { return with(b[:atSize+4]+b[len(b)-8:], atSize, 0, true) }},
		{"a number too many", errForm, func(b string) string { return size(1)(b[:atState] + "\x01\x00\x00\x00" + b[atState:]) }},
	}
}

// TestRestoreErrors: DR3, each error by itself.
func TestRestoreErrors(t *testing.T) {
	_, s := kept(t)
	b := s.Snapshot()
	for _, d := range damages() {
		spoilt := d.do(b)
		if e := s.Restore(spoilt); e != d.want {
			t.Errorf("%s: %d, want %d", d.name, e, d.want)
			continue
		}
		refused(t, s, spoilt, d.want)
	}
	restored(t, s, b)
}

// TestRestoreTwo: DR3, each two errors that can come together, in words.
func TestRestoreTwo(t *testing.T) {
	b, s := kept(t)
	told := s.Snapshot()
	short, none := "LATHS\x01"+strings.Repeat("\x00", 23), strings.Repeat("\x00", 30)
	another := "\x01\x02\x03\x04\x05\x06\x07\x08"
	for _, x := range []struct {
		name  string
		bytes string
		want  api.Errno
	}{
		{"cut and marked wrong", none[:29], errCut}, {"cut, and nothing else", short, errCut}, {"cut, and its number is wrong", told[:atState], errCut},
		{"marked wrong, and its number too great", "LATHT" + with(told, atSize, 9, true)[5:], errMark}, {"marked wrong, and more behind", "LATHT" + told[5:] + "x", errMark},
		{"marked wrong, and its sum", none, errMark}, {"marked wrong, and another fingerprint", summed([]byte("LATHS\x00" + another + told[atCount:len(told)-8])), errMark},
		{"marked wrong, and its count too great", summed([]byte("LATHS\x00" + with(told, atCount, 1<<31, false)[6:len(told)-8])), errMark},
		{"too few bytes, and a wrong sum", with(told, atSize, 4, false), errCut}, {"too few, and another fingerprint", with(with(told, atPrint, 5, false), atSize, 4, true), errCut},
		{"too few, and its count too great", with(with(told, atCount, 1<<31, false), atSize, 4, true), errCut},
		{"too many bytes, and a wrong sum", with(told, atSize, 2, false), errBehind}, {"too many, and another fingerprint", with(with(told, atPrint, 5, false), atSize, 2, true), errBehind},
		{"too many, and a whole number too great", with(with(told, atState, 1<<31, false), atSize, 2, true), errBehind},
		{"a wrong sum, and another fingerprint", with(told, atPrint, 5, false), errSum}, {"a wrong sum, and its count too great", with(told, atCount, 1<<31, false), errSum},
		{"a wrong sum, and a whole number too great", with(told, atState, 1<<31, false), errSum},
		{"another fingerprint, and its count too great", with(with(told, atPrint, 5, false), atCount, 1<<31, true), errPrint},
		{"another fingerprint, and a whole number too great", with(with(told, atPrint, 5, false), atState, 1<<31, true), errPrint},
		{"another fingerprint, and no numbers", summed([]byte("LATHS\x01" + another + strings.Repeat("\x00", 8))), errPrint},
		{"its count and a whole number too great", with(with(told, atCount, 1<<31, false), atState, 1<<31, true), errForm},
		{"its count too great, and no numbers", snapshot(b, 1<<31), errForm},
	} {
		if e := s.Restore(x.bytes); e != x.want {
			t.Errorf("%s: %d, want %d", x.name, e, x.want)
			continue
		}
		refused(t, s, x.bytes, x.want)
	}
}

// TestRestoreEnds: DR3, a count and a whole number of MaxCount are taken, of one more not; 30 bytes are enough for a state without numbers.
func TestRestoreEnds(t *testing.T) {
	b, s := kept(t)
	for _, x := range []struct {
		count, whole uint32
		want         api.Errno
	}{
		{maxCount, maxCount, api.OK}, {maxCount, 0, api.OK}, {0, maxCount, api.OK}, {0, 0, api.OK}, {maxCount + 1, 0, errForm}, {0, maxCount + 1, errForm}, {maxCount + 1, maxCount + 1, errForm}, {1<<32 - 1, 0, errForm}, {0, 1<<32 - 1, errForm},
	} {
		made := snapshot(b, x.count, x.whole, 1<<31, 1<<32-1)
		if x.want != api.OK {
			refused(t, s, made, x.want)
			continue
		}
		restored(t, s, made)
		if s.Count() != int(x.count) || s.Snapshot() != snapshot(b, x.count, x.whole, 1<<31, 0x7fc00000) {
			t.Errorf("count %d, %x", s.Count(), s.Snapshot())
		}
	}
	empty := compiled(t, "identity()", real(1), 0)
	s = opened(t, empty)
	made := snapshot(empty, 77)
	if len(made) != 30 {
		t.Errorf("%d bytes", len(made))
	}
	refused(t, s, made[:29], errCut)
	refused(t, s, made+"\x00", errBehind)
	refused(t, s, snapshot(empty, 77, 0), errForm)
	restored(t, s, made)
	if s.Count() != 77 || s.Snapshot() != made {
		t.Errorf("count %d, %x", s.Count(), s.Snapshot())
	}
}

// TestCuts: P7 and DR3, every cut, from either end.
func TestCuts(t *testing.T) {
	_, s := kept(t)
	b := s.Snapshot()
	for at := range len(b) {
		refused(t, s, b[:at], errCut)
		if e := s.Restore(b[at:]); at > 0 && (e == api.OK || len(b)-at < 30 && e != errCut) {
			t.Errorf("cut from %d on: %d", at, e)
		}
	}
}

// TestTurns: P7, any bits within 64 that follow one another: all bits by themselves, each two of which the first and the last are turned, all
// between two, and any of them.
func TestTurns(t *testing.T) {
	_, s := kept(t)
	b := s.Snapshot()
	hold := func(bit int, bits uint64) {
		spoilt := turned(b, bit, bits)
		if e := s.Restore(spoilt); e == api.OK || s.Snapshot() != b {
			t.Fatalf("bits %x from %d on: %d", bits, bit, e)
		}
	}
	g := &samples.Grower{Source: 64}
	for bit := range 8 * len(b) {
		hold(bit, 1)
		for width := range 64 {
			hold(bit, 1|1<<width)
			hold(bit, 1<<(width+1)-1)
			hold(bit, any64(g))
		}
	}
}

// TestTurnsFromAllOver: P7, likewise of longer snapshots and of bytecode, which is not opened then.
func TestTurnsFromAllOver(t *testing.T) {
	g := &samples.Grower{Source: 65}
	for n := range 40 {
		list := append(g.Params(3), api.Param{Name: "last", Kind: 1, Len: 30})
		b := compiled(t, text(g, list, 1+n%4), list, n%subsets)
		s := opened(t, b)
		stepped(t, s, anyVectors(g, list), anyVectors(g, list))
		told := s.Snapshot()
		for range 200 {
			if e := s.Restore(turned(told, g.Below(8*len(told)), any64(g))); e == api.OK {
				t.Fatalf("%x: taken", told)
			}
			if other, e := Open(turned(b, g.Below(8*len(b)), any64(g))); other != nil || e == api.OK {
				t.Fatalf("%x: taken", b)
			}
		}
		if s.Snapshot() != told {
			t.Fatalf("%x, was %x", s.Snapshot(), told)
		}
	}
}

// TestOthers: P8 and DR3, snapshots of another program, another signature, other passes: ErrPrint, where the bytecode is another one; where it is
// the same, they are taken.
func TestOthers(t *testing.T) {
	texts := []string{"trace(0.5)", "trace(0.5, true)", "trace(0.25)", "ema(0.5)", "identity()", "scale(1.0)"}
	lists := [][]api.Param{real(1), real(2), {{Name: "v", Kind: 1, Len: 2}}, {{Name: "w", Kind: 2, Len: 1}}}
	type one struct {
		b string
		s *Session
	}
	var all []one
	for _, text := range texts {
		for _, list := range lists {
			for _, passes := range []int{0, passPrune, passAlloc, passAll} {
				b := compiled(t, text, list, passes)
				s := opened(t, b)
				stepped(t, s, fill(list, two), fill(list, two))
				all = append(all, one{b, s})
			}
		}
	}
	taken := 0
	for _, from := range all {
		told := from.s.Snapshot()
		for _, to := range all {
			if from.b == to.b {
				restored(t, to.s, told)
				taken++
			} else {
				refused(t, to.s, told, errPrint)
			}
		}
	}
	if taken <= len(all) || taken > len(all)*len(all)/4 {
		t.Errorf("%d of %d were taken", taken, len(all)*len(all))
	}
}

// TestAnySnapshots: rule 1 and P8, bytes from all over, with the mark or without it, with a right sum or a wrong one: none panics, and none that is
// refused changes anything; one that is taken is told again, but for NaNs.
func TestAnySnapshots(t *testing.T) {
	b, s := kept(t)
	g := &samples.Grower{Source: 66}
	errors := map[api.Errno]int{}
	for range 20000 {
		told := s.Snapshot()
		bytes := []byte(told[:len(told)-8])
		for range 1 + g.Below(3) {
			at := g.Below(len(bytes))
			switch g.Below(6) {
			case 0:
				bytes[at] = byte(g.Next() >> 5)
			case 1:
				bytes = slices.Insert(bytes, at, make([]byte, g.Below(6))...)
			case 2:
				bytes = bytes[:max(at, 1)]
			case 3, 4:
				if len(bytes) > atState+8 {
					binary.LittleEndian.PutUint32(bytes[atState+4*g.Below(2):], uint32(g.Pattern()))
				}
			case 5:
				if len(bytes) > atSize {
					binary.LittleEndian.PutUint32(bytes[atCount:], uint32(g.Pattern()))
				}
			}
		}
		made := summed(bytes)
		if g.Below(4) == 0 {
			made = string(bytes) + told[len(told)-8:]
		}
		e := s.Restore(made)
		errors[e]++
		if e != api.OK && s.Snapshot() != told {
			t.Fatalf("%x: %d, but the session has changed", made, e)
		}
		if e != api.OK {
			continue
		}
		count, state := numbersOf(made)
		for n := range state {
			if n > 0 && samples.IsNaN(api.F(state[n])) {
				state[n] = 0x7fc00000
			}
		}
		if s.Count() != int(count) || s.Snapshot() != snapshot(b, count, state...) {
			t.Fatalf("%x was told as %x", made, s.Snapshot())
		}
	}
	for _, e := range []api.Errno{api.OK, errCut, errMark, errBehind, errSum, errPrint, errForm} {
		if errors[e] < 100 {
			t.Errorf("%d: %d times: %v", e, errors[e], errors)
		}
	}
}
