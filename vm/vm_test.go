package vm

import (
	"slices"
	"testing"

	"lathe/api"
	"lathe/code"
	"lathe/samples"
)

// The document's numbers once more, so that a change of package api is seen.
const (
	errArg    api.Errno = 1
	errLong   api.Errno = 2
	errParam  api.Errno = 100
	errTwice  api.Errno = 101
	errTotal  api.Errno = 102
	errCode   api.Errno = 160
	errInput  api.Errno = 170
	errMark   api.Errno = 240
	errSum    api.Errno = 241
	errCut    api.Errno = 242
	errForm   api.Errno = 243
	errBehind api.Errno = 244
	errRoom   api.Errno = 261

	maxCount = 1<<31 - 1
	maxRegs  = 1 << 14
	maxSlots = 1 << 12
	maxCode  = 1 << 15
	maxNest  = 64
	maxLen   = 1 << 12
	mostRoom = 1 << 24

	one   api.F = 0x3f800000
	half  api.F = 0x3f000000
	two   api.F = 0x40000000
	three api.F = 0x40400000
	four  api.F = 0x40800000
	five  api.F = 0x40a00000
	six   api.F = 0x40c00000
	inf   api.F = 0x7f800000
	nan   api.F = 0x7fc00000
	minus api.F = 0x80000000
)

func numberType() api.Type { return api.Type{Kind: 1} }

func wholeType() api.Type { return api.Type{Kind: 2} }

func vectorType(param int) api.Type { return api.Type{Kind: 3, Param: param} }

func read(text string) []api.Inst { return samples.Read(text) }

// usual is the usual code of the tests: its registers 0 to 3 are numbers, 4 to 7 whole numbers, 8 to 11 vectors of w, which has three
// elements, 12 to 15 of z, which is complex and has two, 16 and 17 of u, which has one. The slots 0 to 4 are kept, 5 to 9 are not: a
// number, a whole number, vectors of w, z, u.
func usual(text string) api.Code { return samples.Usual(text) }

// usualGrads and usualParams fit the usual code's signature.
func usualGrads() [][]api.F { return [][]api.F{{one, two, three}, {four, half, five, minus}, {six}} }

func usualParams() [][]api.F { return [][]api.F{{0xbf800000, inf, 0}, {1, 2, 3, 4}, {0x41200000}} }

// encoded is the bytecode of code that is well formed.
func encoded(t *testing.T, c api.Code) string {
	t.Helper()
	b, e := code.Encode(c)
	if e != api.OK {
		t.Fatalf("Encode = %d: %s", e, samples.Show(c))
	}
	return b
}

// begin is a machine for code that New takes.
func begin(t *testing.T, c api.Code) *Machine {
	t.Helper()
	m, e := New(encoded(t, c))
	if m == nil || e != api.OK {
		t.Fatalf("New = %v, %d: %s", m, e, samples.Show(c))
	}
	return m
}

// stepped is what a step answers that has to be done.
func stepped(t *testing.T, m *Machine, grads, params [][]api.F) [][]api.F {
	t.Helper()
	u, e := m.Step(grads, params)
	if e != api.OK {
		t.Fatalf("Step = %08x, %d", u, e)
	}
	return u
}

// done is a machine for the usual code with these instructions, behind one step with the usual vectors; and its updates.
func done(t *testing.T, text string) (*Machine, [][]api.F) {
	t.Helper()
	m := begin(t, usual(text))
	return m, stepped(t, m, usualGrads(), usualParams())
}

func same(a, b [][]api.F) bool {
	return slices.EqualFunc(a, b, func(v, w []api.F) bool { return slices.Equal(v, w) })
}

// holdUpdates: behind these instructions the usual code's updates are those.
func holdUpdates(t *testing.T, text string, want ...[]api.F) {
	t.Helper()
	if _, u := done(t, text); !same(u, want) {
		t.Errorf("%s: %08x, want %08x", text, u, want)
	}
}

// holdState: a machine keeps these numbers, whenever it is asked.
func holdState(t *testing.T, m *Machine, want ...uint32) {
	t.Helper()
	for range 2 {
		if got := m.State(); !slices.Equal(got, want) {
			t.Errorf("State = %08x, want %08x", got, want)
		}
	}
}

// holdSpent: the last step has cost that, whenever it is asked.
func holdSpent(t *testing.T, m *Machine, want int) {
	t.Helper()
	for range 2 {
		if got := m.Spent(); got != want {
			t.Errorf("Spent = %d, want %d", got, want)
		}
	}
}

// words are numbers of a state.
func words(list ...api.F) []uint32 {
	var state []uint32
	for _, a := range list {
		state = append(state, uint32(a))
	}
	return state
}

// holdNumber: behind these instructions the register 0 holds that.
func holdNumber(t *testing.T, text string, want api.F) {
	t.Helper()
	m, _ := done(t, text+"; Store A0")
	if state := m.State(); len(state) != 8 || state[0] != uint32(want) {
		t.Errorf("%s: %08x, want %08x", text, state, want)
	}
}

// holdWhole: behind these instructions the register 4 holds that.
func holdWhole(t *testing.T, text string, want int) {
	t.Helper()
	m, _ := done(t, text+"; Store A4 N1")
	if state := m.State(); len(state) != 8 || state[1] != uint32(want) {
		t.Errorf("%s: %d, want %d", text, state, want)
	}
}

// holdVector: behind these instructions the register 8 holds that.
func holdVector(t *testing.T, text string, want ...api.F) {
	t.Helper()
	m, _ := done(t, text+"; Store A8 N2")
	if state := m.State(); len(state) != 8 || !slices.Equal(state[2:5], words(want...)) {
		t.Errorf("%s: %08x, want %08x", text, state, want)
	}
}

// TestExample: VM1 to VM3, the chapter's example.
func TestExample(t *testing.T) {
	v := vectorType(0)
	c := api.Code{Sign: []api.Param{{Name: "w", Kind: 1, Len: 2}}, Regs: []api.Type{v, numberType(), v}, List: read("Grad D0; Number D1 =3f000000; Mul D2 A0 B1; Out A2")}
	m := begin(t, c)
	holdSpent(t, m, 0)
	for range 3 {
		if u := stepped(t, m, [][]api.F{{two, four}}, [][]api.F{{0, 0}}); !same(u, [][]api.F{{one, two}}) {
			t.Errorf("%08x", u)
		}
		holdSpent(t, m, 2+1+2+2)
		holdState(t, m)
	}
	if e := m.Set(nil); e != api.OK {
		t.Errorf("Set = %d", e)
	}
}

// TestNothing: VM1 to VM3, code without instructions, without registers, without parameters.
func TestNothing(t *testing.T) {
	m := begin(t, api.Code{})
	for range 3 {
		if u := stepped(t, m, nil, [][]api.F{}); len(u) != 0 {
			t.Errorf("%08x", u)
		}
		holdSpent(t, m, 0)
		holdState(t, m)
		if len(m.Signature()) != 0 || m.Set(nil) != api.OK || m.Set([]uint32{}) != api.OK || m.Set([]uint32{0}) != errArg {
			t.Error("there is something")
		}
		if e := holdInput(t, m, [][]api.F{{}}, nil); e != errInput {
			t.Errorf("%d", e)
		}
		m = m.Clone()
	}
	holdUpdates(t, "", []api.F{0, 0, 0}, []api.F{0, 0, 0, 0}, []api.F{0})
}

// TestSignature: VM1, the code's Sign, in its order, whatever it is.
func TestSignature(t *testing.T) {
	g := &samples.Grower{Source: 1}
	codes := []api.Code{usual(""), {Sign: []api.Param{{Name: "b/c.d_e-f", Kind: 2, Len: 4096}, {Name: "a", Kind: 1, Len: 1}}}}
	for range 300 {
		codes = append(codes, g.Code(10))
	}
	var many api.Code
	for n := range 64 {
		many.Sign = append(many.Sign, api.Param{Name: "p" + string(rune('a'+n/26)) + string(rune('a'+n%26)), Kind: 1 + n%2, Len: 1 + n})
	}
	for _, c := range append(codes, many) {
		m := begin(t, c)
		for range 2 {
			if list := m.Signature(); !slices.Equal(list, c.Sign) {
				t.Errorf("%v, want %v", list, c.Sign)
			}
			stepped(t, m, g.Vectors(c.Sign), g.Vectors(c.Sign))
			if list := m.Clone().Signature(); !slices.Equal(list, c.Sign) {
				t.Errorf("%v, want %v", list, c.Sign)
			}
		}
	}
}
