package driver

import (
	"encoding/binary"
	"hash/crc64"
	"slices"
	"strconv"
	"strings"
	"testing"

	"lathe/api"
	"lathe/check"
	"lathe/mealy"
	"lathe/parse"
	"lathe/samples"
)

// The document's numbers once more, so that a change of package api is seen.
const (
	errArg     api.Errno = 1
	errLong    api.Errno = 2
	errByte    api.Errno = 60
	errText    api.Errno = 61
	errNumber  api.Errno = 62
	errSyntax  api.Errno = 80
	errDeep    api.Errno = 81
	errMany    api.Errno = 82
	errGreat   api.Errno = 31
	errParam   api.Errno = 100
	errTwice   api.Errno = 101
	errTotal   api.Errno = 102
	errMask    api.Errno = 110
	errNone    api.Errno = 111
	errName    api.Errno = 130
	errArity   api.Errno = 131
	errKey     api.Errno = 132
	errType    api.Errno = 133
	errValue   api.Errno = 134
	errComplex api.Errno = 135
	errCode    api.Errno = 160
	errInput   api.Errno = 170
	errSlots   api.Errno = 180
	errSize    api.Errno = 181
	errMark    api.Errno = 240
	errSum     api.Errno = 241
	errCut     api.Errno = 242
	errForm    api.Errno = 243
	errBehind  api.Errno = 244
	errPrint   api.Errno = 245
	errRoom    api.Errno = 261

	passPrune = 4
	passAlloc = 16
	passAll   = 31
	subsets   = 32

	maxCount  = 1<<31 - 1
	maxSource = 1 << 16
	maxNodes  = 4096
	maxDepth  = 64
	maxLen    = 1 << 12

	one   api.F = 0x3f800000
	half  api.F = 0x3f000000
	two   api.F = 0x40000000
	three api.F = 0x40400000
	four  api.F = 0x40800000
	nan   api.F = 0x7fc00000
	inf   api.F = 0x7f800000
	minus api.F = 0x80000000
)

// real is the signature of one real parameter of so many elements.
func real(length int) []api.Param { return []api.Param{{Name: "w", Kind: 1, Len: length}} }

// mixed has real parameters and complex ones, of one element and of more.
func mixed() []api.Param {
	return []api.Param{{Name: "w", Kind: 1, Len: 3}, {Name: "z", Kind: 2, Len: 2}, {Name: "b/u", Kind: 1, Len: 1}, {Name: "b/y", Kind: 2, Len: 1}}
}

// compiled is the bytecode of a text that must have some.
func compiled(t *testing.T, text string, list []api.Param, passes int) string {
	t.Helper()
	b, e, at := Compile(text, list, passes)
	if e != api.OK || at != 0 || b == "" {
		t.Fatalf("Compile(%q, %v, %d) = %d bytes, %d at %d", text, list, passes, len(b), e, at)
	}
	return b
}

// opened is a session of bytecode that must have one.
func opened(t *testing.T, bytecode string) *Session {
	t.Helper()
	s, e := Open(bytecode)
	if e != api.OK || s == nil || s.Count() != 0 {
		t.Fatalf("Open = %v, %d", s, e)
	}
	return s
}

// session is one of a text.
func session(t *testing.T, text string, list []api.Param, passes int) *Session {
	t.Helper()
	return opened(t, compiled(t, text, list, passes))
}

// stepped are the updates of a step that must have some.
func stepped(t *testing.T, s *Session, grads, params [][]api.F) [][]api.F {
	t.Helper()
	count := s.Count()
	u, e := s.Step(grads, params)
	if e != api.OK || s.Count() != min(count+1, maxCount) {
		t.Fatalf("Step(%08x, %08x) = %08x, %d; the count was %d, is %d", grads, params, u, e, count, s.Count())
	}
	return u
}

// meaning is the machine of layer 15 of a text; false, if it has no typed program.
func meaning(text string, list []api.Param) (*mealy.Machine, bool) {
	root, e, _ := parse.Parse(text)
	if e != api.OK {
		return nil, false
	}
	program, e, _ := check.Check(root, list)
	if e != api.OK {
		return nil, false
	}
	m, e := mealy.New(program, list)
	return m, e == api.OK
}

// meant is that of a text that must have one.
func meant(t *testing.T, text string, list []api.Param) *mealy.Machine {
	t.Helper()
	m, ok := meaning(text, list)
	if !ok {
		t.Fatalf("%q has no meaning over %v", text, list)
	}
	return m
}

func same(u, v [][]api.F) bool { return slices.EqualFunc(u, v, slices.Equal[[]api.F]) }

// fill are vectors that fit a signature, of one pattern.
func fill(list []api.Param, a api.F) [][]api.F {
	vectors := make([][]api.F, len(list))
	for n, p := range list {
		vectors[n] = slices.Repeat([]api.F{a}, p.Len*p.Kind)
	}
	return vectors
}

// anyVectors are some of any mood.
func anyVectors(g *samples.Grower, list []api.Param) [][]api.F {
	if mood := g.Below(samples.Moods + 1); mood < samples.Moods {
		return g.Moody(list, mood)
	}
	return g.Vectors(list)
}

// text is a program from all over that has a typed one.
func text(g *samples.Grower, list []api.Param, depth int) string {
	for {
		program := g.Text(list, depth)
		if _, ok := meaning(program, list); ok {
			return program
		}
	}
}

// summed are bytes and behind them the chapter's fingerprint, which is one that another library knows too.
func summed(b []byte) string {
	return string(binary.LittleEndian.AppendUint64(b, crc64.Checksum(b, crc64.MakeTable(crc64.ECMA))))
}

// snapshot is the one of bytecode with this count and this state, made by hand.
func snapshot(bytecode string, count uint32, state ...uint32) string {
	b := append([]byte("LATHS\x01"), bytecode[len(bytecode)-8:]...)
	b = binary.LittleEndian.AppendUint32(b, count)
	b = binary.LittleEndian.AppendUint32(b, uint32(len(state)))
	for _, x := range state {
		b = binary.LittleEndian.AppendUint32(b, x)
	}
	return summed(b)
}

// numbersOf are the count and the state of a snapshot.
func numbersOf(snapshot string) (uint32, []uint32) {
	b := []byte(snapshot)
	var state []uint32
	for at := 22; at < len(b)-8; at += 4 {
		state = append(state, binary.LittleEndian.Uint32(b[at:]))
	}
	return binary.LittleEndian.Uint32(b[14:]), state
}

// restored restores a session from a snapshot that it must take.
func restored(t *testing.T, s *Session, snapshot string) {
	t.Helper()
	if e := s.Restore(snapshot); e != api.OK {
		t.Fatalf("Restore(%x) = %d", snapshot, e)
	}
}

// refused: DR3, a session does not take these bytes, and stays as it is.
func refused(t *testing.T, s *Session, bytes string, want api.Errno) {
	t.Helper()
	count, ahead := s.Count(), s.Snapshot()
	if e := s.Restore(bytes); e != want {
		t.Fatalf("Restore(%x) = %d, want %d", bytes, e, want)
	}
	if s.Count() != count || s.Snapshot() != ahead {
		t.Fatalf("Restore(%x) = %d, but the session has changed: count %d, was %d; %x, was %x", bytes, want, s.Count(), count, s.Snapshot(), ahead)
	}
}

// TestChapter: the chapter's examples.
func TestChapter(t *testing.T) {
	list := real(2)
	for passes := range subsets {
		s := session(t, "scale(0.5)", list, passes)
		if u := stepped(t, s, [][]api.F{{two, four}}, [][]api.F{{0, 0}}); !same(u, [][]api.F{{one, two}}) || s.Count() != 1 {
			t.Errorf("passes %d: %08x, count %d", passes, u, s.Count())
		}
		refused(t, s, "", errCut)
		if b, e, at := Compile("scale(", list, passes); b != "" || e != errSyntax || at != 6 {
			t.Errorf("passes %d: %q, %d at %d", passes, b, e, at)
		}
	}
}

// TestDocument: the examples of DOC.md, with every choice of the passes.
func TestDocument(t *testing.T) {
	for _, x := range []struct {
		text string
		grad api.F
		want string
	}{
		{"scale(2)", one, "40000000"},
		{"adam(0.001)", one, "ba83126f ba831252 ba831234 ba831255"},
		{"chain(multi_steps(2, scale(0.5)), trace(0.5))", one, "00000000 3f000000 3e800000 3f200000"},
		{"scale_by_schedule(cosine(1.0, 4))", one, "3f800000 3f5a827a 3f000000 3e15f618"},
		{"until(1, scale(2), scale(3))", one, "40000000 40400000 40400000"},
		{"zero_nans()", 0x7f800001, "00000000"},
		{"identity()", 0x7f800001, "7fc00000"},
	} {
		for passes := range subsets {
			s := session(t, x.text, real(1), passes)
			for n, word := range strings.Fields(x.want) {
				want, _ := strconv.ParseUint(word, 16, 32)
				if u := stepped(t, s, [][]api.F{{x.grad}}, [][]api.F{{one}}); !same(u, [][]api.F{{api.F(want)}}) {
					t.Errorf("%s, passes %d, step %d: %08x, want %s", x.text, passes, n+1, u, word)
				}
			}
		}
	}
}

// TestDocumentTwo: DOC.md's example of two parameters, one of them complex, its two steps and its snapshot.
func TestDocumentTwo(t *testing.T) {
	list := []api.Param{{Name: "w", Kind: 1, Len: 2}, {Name: "z", Kind: 2, Len: 1}}
	text := "let lr = warmup(0.1, 2, constant(0.1));\nchain(clip_by_global_norm(1.0), trace(0.5), scale_by_learning_rate(lr))"
	grads, params := [][]api.F{{two, 0}, {one, two}}, fill(list, 0)
	for passes := range subsets {
		s := session(t, text, list, passes)
		if u := stepped(t, s, grads, params); !same(u, fill(list, minus)) {
			t.Errorf("passes %d: %08x", passes, u)
		}
		if u := stepped(t, s, grads, params); !same(u, [][]api.F{{0xbd4ccccd, minus}, {0xbccccccd, 0xbd4ccccd}}) {
			t.Errorf("passes %d: %08x", passes, u)
		}
		if b := s.Snapshot(); len(b) != 50 {
			t.Errorf("passes %d: a snapshot of %d bytes", passes, len(b))
		}
	}
}
