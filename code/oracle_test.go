package code

import (
	"encoding/binary"
	"slices"
	"strings"
	"testing"

	"lathe/api"
	"lathe/ir"
	"lathe/samples"
)

// named are the fields that the row of each Op names, of Op 1 the first; '=' is Bits.
var named = samples.Fields()

// wantBytes is bytecode by the chapter's words, of code that may also be at fault, if only its numbers are from 0 on and what has a byte to
// itself is one.
func wantBytes(c api.Code) string {
	b := []byte("lth1")
	number := func(n int) { b = binary.AppendUvarint(b, uint64(n)) } // the library's are such groups
	number(len(c.Sign))
	for _, p := range c.Sign {
		b = append(b, byte(p.Kind))
		number(len(p.Name))
		b = append(b, p.Name...)
		number(p.Len)
	}
	typed := func(is api.Type) {
		if b = append(b, byte(is.Kind)); is.Kind == 3 {
			number(is.Param)
		}
	}
	number(len(c.Regs))
	for _, is := range c.Regs {
		typed(is)
	}
	number(len(c.Slots))
	for _, s := range c.Slots {
		b = append(b, map[bool]byte{true: 1}[s.Keep])
		if typed(s.Type); s.Type.Kind == 2 {
			number(s.Int)
		} else {
			b = binary.LittleEndian.AppendUint32(b, uint32(s.Bits))
		}
	}
	number(len(c.List))
	for _, i := range c.List {
		b = append(b, byte(i.Op))
		for _, letter := range []byte(named[i.Op-1]) {
			if field := samples.Field(&i, letter); field != nil {
				number(*field)
			}
		}
		if i.Op == 1 {
			b = binary.LittleEndian.AppendUint32(b, uint32(i.Bits))
		}
	}
	return sealed(string(b))
}

// A part is one of bytecode: what it is, where it begins, and where the next one does.
type part struct {
	what       string
	start, end int
}

// is is what stands in a part of those bytes.
func (p part) is(b string) string { return b[p.start:p.end] }

// with is the bytes with something else in place of a part, and their fingerprint.
func (p part) with(b, by string) string {
	return sealed(b[:p.start] + by + b[p.end:len(b)-8])
}

// counted are the numbers that have bounds of their own, and single what has a byte to itself.
var (
	counted = map[string]int{"params": maxParams, "letters": maxName, "regs": maxRegs, "slots": maxSlots, "list": maxCode}
	single  = map[string][2]int{"kind": {1, 2}, "type": {1, 3}, "keep": {0, 1}, "op": {1, 37}}
)

// isNumber tells whether a part is a number.
func (p part) isNumber() bool {
	_, isSingle := single[p.what]
	return !isSingle && !slices.Contains([]string{"mark", "name", "bits", "sum"}, p.what)
}

// A scan goes over bytes by the chapter's words, part by part; behind the first error nothing more comes.
type scan struct {
	b     string
	parts []part
	e     api.Errno
	at    int
}

// rest are the bytes that no part has taken.
func (s *scan) rest() string {
	if len(s.parts) == 0 {
		return s.b
	}
	return s.b[s.parts[len(s.parts)-1].end:]
}

// put is the next part, of so many bytes; with an error it is at fault.
func (s *scan) put(what string, size int, e api.Errno) string {
	start := len(s.b) - len(s.rest())
	if size > len(s.rest()) && e == api.OK {
		e = errCut
	}
	if s.e != api.OK || e != api.OK {
		if s.e == api.OK {
			s.e, s.at = e, start
		}
		return strings.Repeat("\x00", max(size, 1))
	}
	s.parts = append(s.parts, part{what, start, start + size})
	return s.b[start : start+size]
}

func (s *scan) mark() {
	e := api.OK
	for k := range min(4, len(s.b)) {
		if s.b[k] != "lth1"[k] {
			e = errMark
		}
	}
	s.put("mark", 4, e)
}

func (s *scan) small(what string) int {
	e := api.OK
	if bounds := single[what]; s.rest() != "" && (int(s.rest()[0]) < bounds[0] || int(s.rest()[0]) > bounds[1]) {
		e = errForm
	}
	return int(s.put(what, 1, e)[0])
}

// number takes as many bytes as say that another one follows, and the one behind them. Ten are too many, or the number is above all that may
// be, whatever the tenth says.
func (s *scan) number(what string) int {
	rest, size := s.rest(), 1
	for size < 10 && size <= len(rest) && rest[size-1] >= 128 {
		size++
	}
	n, e := 0, api.OK
	for k := range min(size, len(rest)) {
		n += int(rest[k]%128) << (7 * k)
	}
	most, isCounted := counted[what]
	switch {
	case size > len(rest):
		e = errCut
	case size == 10 || size > 1 && rest[size-1] == 0:
		e = errForm
	case isCounted && n > most:
		e = errLong
	}
	s.put(what, size, e)
	if s.e != api.OK {
		return 0
	}
	return n
}

func (s *scan) pattern() api.F {
	return api.F(binary.LittleEndian.Uint32([]byte(s.put("bits", 4, api.OK))))
}

func (s *scan) each(what string, do func()) {
	for range s.number(what) {
		if do(); s.e != api.OK {
			return
		}
	}
}

func (s *scan) typed() api.Type {
	is := api.Type{Kind: s.small("type")}
	if is.Kind == 3 {
		is.Param = s.number("param")
	}
	return is
}

func (s *scan) slot() api.Slot {
	slot := api.Slot{Keep: s.small("keep") == 1, Type: s.typed()}
	if slot.Type.Kind == 2 {
		slot.Int = s.number("int")
	} else {
		slot.Bits = s.pattern()
	}
	return slot
}

func (s *scan) inst() api.Inst {
	i := api.Inst{Op: s.small("op")}
	if s.e != api.OK {
		return i
	}
	for _, letter := range []byte(named[i.Op-1]) {
		if field := samples.Field(&i, letter); field != nil {
			*field = s.number(string(letter))
		}
	}
	if i.Op == 1 {
		i.Bits = s.pattern()
	}
	return i
}

func (s *scan) sum() {
	e, start := api.OK, len(s.b)-len(s.rest())
	if len(s.rest()) >= 8 && s.rest()[:8] != sealed(s.b[:start])[start:] {
		e = errSum
	}
	s.put("sum", 8, e)
	if s.e == api.OK && s.rest() != "" {
		s.e, s.at = errBehind, start+8
	}
}

// scanned is the code of bytes, whether it is well formed or not, and their parts.
func scanned(b string) (api.Code, *scan) {
	s, c := &scan{b: b}, api.Code{}
	s.mark()
	s.each("params", func() {
		p := api.Param{Kind: s.small("kind")}
		p.Name = s.put("name", s.number("letters"), api.OK)
		p.Len = s.number("len")
		c.Sign = append(c.Sign, p)
	})
	s.each("regs", func() { c.Regs = append(c.Regs, s.typed()) })
	s.each("slots", func() { c.Slots = append(c.Slots, s.slot()) })
	s.each("list", func() { c.List = append(c.List, s.inst()) })
	s.sum()
	return c, s
}

// partsOf are the parts of bytecode.
func partsOf(t *testing.T, b string) []part {
	t.Helper()
	_, s := scanned(b)
	if s.e != api.OK {
		t.Fatalf("%d at %d: %s", s.e, s.at, short(b))
	}
	return s.parts
}

// wantDecode is what Decode is to tell.
func wantDecode(b string) (api.Code, api.Errno, int) {
	c, s := scanned(b)
	if s.e != api.OK {
		return api.Code{}, s.e, s.at
	}
	if e, _ := ir.Check(c); e != api.OK {
		return api.Code{}, e, 0
	}
	return c, api.OK, 0
}

// hold: CO2 and CO3, Decode tells what the chapter's words say of any bytes; what is taken is well formed, and its bytecode these bytes. The
// error is told.
func hold(t *testing.T, b string) api.Errno {
	t.Helper()
	want, e, at := wantDecode(b)
	if e != api.OK {
		holdRefused(t, b, e, at)
		return e
	}
	holdTaken(t, b, want)
	return e
}

// TestOracle: the tests' own words tell the chapter's examples, and where the parts of a code are.
func TestOracle(t *testing.T) {
	for _, x := range []struct {
		b  string
		e  api.Errno
		at int
	}{{"", errCut, 0}, {"lt", errCut, 0}, {"lx", errMark, 0}, {"lth1\x00\x00", errCut, 6}, {"lth2", errMark, 0}, {"lth1\x80\x00\x00", errForm, 4}, {made("00 00 00 00") + "x", errBehind, 16}} {
		if _, e, at := wantDecode(x.b); e != x.e || at != x.at {
			t.Errorf("%s: %d, %d", short(x.b), e, at)
		}
	}
	c := samples.EveryOp()
	if counts := samples.Counts(c); len(counts) != 37 {
		t.Errorf("%v", counts)
	}
	b := wantBytes(c)
	if d, e, at := wantDecode(b); !ir.Equal(c, d) || e != api.OK || at != 0 {
		t.Errorf("%s: %s, %d, %d", short(b), samples.Show(d), e, at)
	}
	seen := map[string]bool{}
	for _, p := range partsOf(t, b) {
		seen[p.what] = true
	}
	if len(seen) != 21 {
		t.Errorf("%v", seen)
	}
}
