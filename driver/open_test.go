package driver

import (
	"slices"
	"testing"

	"lathe/api"
	"lathe/code"
	"lathe/samples"
	"lathe/vm"
)

// holdOpen: DR2, what vm says of these bytes, Open says; a session just where it takes them.
func holdOpen(t *testing.T, b string) api.Errno {
	t.Helper()
	_, want := vm.New(b)
	s, e := Open(b)
	if e != want || (s != nil) != (e == api.OK) {
		t.Fatalf("Open(%x) = %v, %d, want %d", b, s, e, want)
	}
	if s != nil && s.Count() != 0 {
		t.Fatalf("Open(%x): count %d", b, s.Count())
	}
	return e
}

// shortCode is bytecode of a few instructions.
func shortCode(t *testing.T) string {
	t.Helper()
	return compiled(t, "trace(0.5)", mixed()[:2], passAll)
}

// TestOpen: DR2, the machine's errors, each by itself.
func TestOpen(t *testing.T) {
	b := shortCode(t)
	if e := holdOpen(t, b); e != api.OK {
		t.Errorf("Open = %d", e)
	}
	for _, x := range []struct {
		bytes string
		want  api.Errno
	}{
		{"", errCut}, {"l", errCut}, {"lth", errCut}, {"LATHS\x01", errMark}, {"lth2", errMark}, {"lth1", errCut}, {"lth1\x80\x00", errForm}, {"lth1\x41", errLong}, {b[:len(b)-1], errCut}, {b[:len(b)-8], errCut},
		{b + "\x00", errBehind}, {b + b, errBehind}, {b[:len(b)-1] + string(b[len(b)-1]^1), errSum}, {b[1:], errMark}, {" " + b, errMark},
	} {
		if e := holdOpen(t, x.bytes); e != x.want {
			t.Errorf("Open(%x) = %d, want %d", x.bytes, e, x.want)
		}
	}
}

// TestOpenCut: DR2 and P7, bytecode that is cut at every place, from either end, or that has more behind it.
func TestOpenCut(t *testing.T) {
	b := shortCode(t)
	for at := range len(b) {
		if e := holdOpen(t, b[:at]); e != errCut {
			t.Errorf("cut to %d: %d", at, e)
		}
		if e := holdOpen(t, b[at:]); (e == api.OK) != (at == 0) {
			t.Errorf("cut from %d on: %d", at, e)
		}
		if e := holdOpen(t, b+b[:at]); (e == api.OK) != (at == 0) {
			t.Errorf("with %d more: %d", at, e)
		}
	}
}

// TestOpenTurned: DR2 and P7, bytecode with each of its bits turned, and with any within 64 bits.
func TestOpenTurned(t *testing.T) {
	b := shortCode(t)
	for bit := range 8 * len(b) {
		if e := holdOpen(t, turned(b, bit, 1)); e == api.OK {
			t.Errorf("bit %d: taken", bit)
		}
	}
	g := &samples.Grower{Source: 7}
	for range 4000 {
		bit := g.Below(8 * len(b))
		if e := holdOpen(t, turned(b, bit, any64(g))); e == api.OK {
			t.Fatalf("about bit %d: taken", bit)
		}
	}
}

// turned are bytes in which those bits from one on are turned that are 1 in a number, as far as there are bytes.
func turned(b string, bit int, bits uint64) string {
	changed := []byte(b)
	for n := range 64 {
		if at := bit + n; bits>>n&1 == 1 && at < 8*len(changed) {
			changed[at/8] ^= 1 << (at % 8)
		}
	}
	return string(changed)
}

// any64 is a number of 64 bits the lowest of which is 1, with few others, or many.
func any64(g *samples.Grower) uint64 {
	bits := uint64(g.Next())<<32 | uint64(g.Next())
	switch g.Below(4) {
	case 0:
		bits = 1 << g.Below(64)
	case 1:
		bits &= uint64(g.Next())<<32 | uint64(g.Next())
	case 2:
		bits = 1<<g.Below(64) - 1
	}
	return bits | 1
}

// TestOpenNotWellFormed: DR2 and P6, code that is not well formed beneath a right fingerprint.
func TestOpenNotWellFormed(t *testing.T) {
	errors := map[api.Errno]int{}
	b := shortCode(t)
	b = b[:len(b)-8]
	for at := range len(b) {
		for bit := range 8 {
			errors[holdOpen(t, summed([]byte(turned(b, 8*at+bit, 1))))]++
		}
		errors[holdOpen(t, summed([]byte(b[:at])))]++
		errors[holdOpen(t, summed(slices.Delete([]byte(b), at, at+1)))]++
		errors[holdOpen(t, summed(slices.Insert([]byte(b), at, 0)))]++
	}
	for _, e := range []api.Errno{errCode, errForm, errCut, errMark, errSum, errParam, errLong} {
		if errors[e] == 0 {
			t.Errorf("%d: never: %v", e, errors)
		}
	}
}

// TestOpenNoRoom: DR2, well formed code that no machine takes.
func TestOpenNoRoom(t *testing.T) {
	c := api.Code{Sign: real(maxLen), Regs: slices.Repeat([]api.Type{{Kind: 3}}, 4096)}
	b, e := code.Encode(c)
	if e != api.OK || holdOpen(t, b) != api.OK {
		t.Errorf("just room enough: %d", e)
	}
	c.Regs = append(c.Regs, api.Type{Kind: 1})
	b, _ = code.Encode(c)
	if e := holdOpen(t, b); e != errRoom {
		t.Errorf("one number more: %d", e)
	}
}

// TestOpenCodes: DR2, DR3 and P6, codes from all over, whoever made them: the session does what the machine does, and keeps what it keeps.
func TestOpenCodes(t *testing.T) {
	g := &samples.Grower{Source: 8}
	kept := 0
	for range 800 {
		c := g.Code(60)
		b, e := code.Encode(c)
		if e != api.OK {
			t.Fatalf("Encode = %d", e)
		}
		s, other := opened(t, b), opened(t, b)
		m, _ := vm.New(b)
		for range 4 {
			grads, params := g.Vectors(c.Sign), g.Vectors(c.Sign)
			want, _ := m.Step(grads, params)
			if u := stepped(t, s, grads, params); !same(u, want) {
				t.Fatalf("%08x, want %08x: %s", u, want, samples.Show(c))
			}
			if got, want := s.Snapshot(), snapshot(b, uint32(s.Count()), m.State()...); got != want {
				t.Fatalf("%x, want %x: %s", got, want, samples.Show(c))
			}
			restored(t, other, s.Snapshot())
			if other.Snapshot() != s.Snapshot() || other.Count() != s.Count() {
				t.Fatalf("%x, want %x: %s", other.Snapshot(), s.Snapshot(), samples.Show(c))
			}
		}
		kept += len(m.State())
	}
	if kept < 800 {
		t.Errorf("%d numbers were kept", kept)
	}
}

// TestOpenedAlone: rule 4, sessions of the same bytecode are on their own.
func TestOpenedAlone(t *testing.T) {
	b := compiled(t, "trace(0.5)", real(1), passAll)
	s, other := opened(t, b), opened(t, b)
	for n, want := range []api.F{one, 0x3fc00000, 0x3fe00000} {
		if u := stepped(t, s, [][]api.F{{one}}, [][]api.F{{0}}); u[0][0] != want || s.Count() != n+1 || other.Count() != 0 {
			t.Errorf("step %d: %08x, counts %d, %d", n+1, u, s.Count(), other.Count())
		}
	}
	if u := stepped(t, other, [][]api.F{{one}}, [][]api.F{{0}}); u[0][0] != one || s.Count() != 3 {
		t.Errorf("%08x, count %d", u, s.Count())
	}
}
