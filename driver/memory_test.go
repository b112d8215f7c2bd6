package driver

import (
	"slices"
	"strings"
	"sync"
	"testing"

	"lathe/api"
	"lathe/samples"
)

// TestSignatureStays: rule 3, the signature that Compile is given is not changed, its spare room neither, whatever is answered; and the bytecode
// stays what it is when the signature is written over.
func TestSignatureStays(t *testing.T) {
	g := &samples.Grower{Source: 21}
	for n := range 600 {
		list := g.Params(4)
		program := g.Text(list, 1+n%4)
		if n%4 == 3 {
			program = harmed(g, program)
		}
		if n%7 == 6 && len(list) > 0 {
			list[0].Len = 0
		}
		handed := samples.Roomy(list, api.Param{Name: "p0", Kind: 9}, api.Param{Name: "q", Kind: 1, Len: 1})
		before := slices.Clone(handed[:cap(handed)])
		b, e, at := Compile(program, handed, n%subsets)
		want := strings.Clone(b)
		if !slices.Equal(handed[:cap(handed)], before) {
			t.Fatalf("Compile(%q, ..): %v became %v", program, before, handed[:cap(handed)])
		}
		samples.Ruin(handed, api.Param{Name: "ruin", Kind: 9, Len: -1})
		if again, e2, at2 := Compile(program, list, n%subsets); b != want || again != want || e2 != e || at2 != at {
			t.Fatalf("Compile(%q, ..) = %d at %d, then %d at %d", program, e, at, e2, at2)
		}
	}
}

// TestVectorsStay: rule 3, what Step is given is neither changed nor kept, its spare room neither; what it answers is its caller's, spare room too.
func TestVectorsStay(t *testing.T) {
	g := &samples.Grower{Source: 22}
	for n := range 300 {
		list := append(g.Params(3), api.Param{Name: "last", Kind: 1 + n%2, Len: 2})
		program := text(g, list, 1+n%4)
		s, m := session(t, program, list, n%subsets), meant(t, program, list)
		for range 4 {
			grads, params := samples.RoomyVectors(anyVectors(g, list)), samples.RoomyVectors(anyVectors(g, list))
			before := samples.OpenedVectors(grads) + samples.OpenedVectors(params)
			want, _ := m.Step(grads, params)
			u := stepped(t, s, grads, params)
			told := s.Snapshot()
			for p := range u {
				if !slices.Equal(u[p], want[p]) { // those ahead of it have been written over
					t.Fatalf("%s: %08x, want %08x", program, u, want)
				}
				samples.Ruin(u[p], 0xdeadbeef)
			}
			if samples.OpenedVectors(grads)+samples.OpenedVectors(params) != before {
				t.Fatalf("%s: Step changed what it was given, or shares it", program)
			}
			samples.RuinVectors(grads)
			samples.RuinVectors(params)
			samples.RuinVectors(u)
			if s.Snapshot() != told {
				t.Fatalf("%s: %x, was %x", program, s.Snapshot(), told)
			}
		}
	}
}

// TestWrongVectorsStay: rules 2 and 3, vectors that do not fit are not changed either.
func TestWrongVectorsStay(t *testing.T) {
	s := session(t, "adam(0.1)", mixed(), passAll)
	for _, wrong := range stranger(mixed()) {
		handed := samples.RoomyVectors(wrong)
		before := samples.OpenedVectors(handed)
		s.Step(handed, handed)
		s.Step(fill(mixed(), one), handed)
		s.Step(handed, fill(mixed(), one))
		if samples.OpenedVectors(handed) != before {
			t.Errorf("%08x was changed", wrong)
		}
	}
}

// TestSameVectors: rule 3, gradients and parameters may be the same memory, and so may be all their vectors.
func TestSameVectors(t *testing.T) {
	list := []api.Param{{Name: "w", Kind: 1, Len: 2}, {Name: "z", Kind: 2, Len: 1}}
	for passes := range subsets {
		s, m := session(t, "chain(trace(0.5), add_decayed_weights(0.5))", list, passes), meant(t, "chain(trace(0.5), add_decayed_weights(0.5))", list)
		v := []api.F{three, half}
		both := [][]api.F{v, v}
		for range 3 {
			want, _ := m.Step(both, both)
			if u := stepped(t, s, both, both); !same(u, want) || !slices.Equal(v, []api.F{three, half}) {
				t.Errorf("passes %d: %08x, want %08x; %08x", passes, u, want, v)
			}
		}
	}
}

// TestOneCall: rule 4, what Compile answers hangs on the arguments alone, not on the calls ahead of it: in one order and in another.
func TestOneCall(t *testing.T) {
	g := &samples.Grower{Source: 23}
	type call struct {
		text   string
		list   []api.Param
		passes int
		b      string
		e      api.Errno
		at     int
	}
	var calls []call
	for n := range 300 {
		c := call{list: g.Params(4), passes: g.Below(subsets+2) - 1}
		c.text = g.Text(c.list, 1+n%5)
		if n%3 == 0 {
			c.text = harmed(g, c.text)
		}
		c.b, c.e, c.at = Compile(c.text, c.list, c.passes)
		calls = append(calls, c)
	}
	slices.Reverse(calls)
	for _, c := range calls {
		if b, e, at := Compile(c.text, c.list, c.passes); b != c.b || e != c.e || at != c.at {
			t.Fatalf("Compile(%q, %v, %d) = %d at %d, then %d at %d", c.text, c.list, c.passes, c.e, c.at, e, at)
		}
	}
}

// TestSideBySide: rule 4, calls at the same time, of Compile and of sessions each on its own, answer what they answer by themselves.
func TestSideBySide(t *testing.T) {
	g := &samples.Grower{Source: 24}
	list := mixed()
	program := text(g, list, 4)
	b := compiled(t, program, list, passAll)
	var vectors [][][]api.F
	var updates [][][]api.F
	s := opened(t, b)
	for range 20 {
		vectors = append(vectors, anyVectors(g, list))
		updates = append(updates, stepped(t, s, vectors[len(vectors)-1], vectors[0]))
	}
	told := s.Snapshot()
	var group sync.WaitGroup
	for range 16 {
		group.Go(func() {
			if again, e, at := Compile(program, list, passAll); again != b || e != api.OK || at != 0 {
				t.Errorf("Compile = %d at %d", e, at)
			}
			other, e := Open(b)
			if e != api.OK {
				t.Errorf("Open = %d", e)
				return
			}
			for n, v := range vectors {
				if u, e := other.Step(v, vectors[0]); e != api.OK || !same(u, updates[n]) {
					t.Errorf("step %d: %08x, %d, want %08x", n, u, e, updates[n])
				}
			}
			if other.Snapshot() != told || other.Restore(told) != api.OK || other.Count() != 20 {
				t.Errorf("%x, want %x", other.Snapshot(), told)
			}
		})
	}
	group.Wait()
}
