package interp

import (
	"slices"
	"testing"

	"lathe/api"
	"lathe/samples"
)

// The document's numbers once more, so that a change of package api is seen.
const (
	errArg   api.Errno = 1
	errLong  api.Errno = 2
	errParam api.Errno = 100
	errTwice api.Errno = 101
	errTotal api.Errno = 102
	errCode  api.Errno = 160
	errInput api.Errno = 170
	errSlots api.Errno = 180
	errSize  api.Errno = 181

	maxCount = 1<<31 - 1
	maxRegs  = 1 << 14
	maxSlots = 1 << 12
	maxCode  = 1 << 15
	maxNest  = 64
	maxLen   = 1 << 12

	nought api.F = 0
	one    api.F = 0x3f800000
	half   api.F = 0x3f000000
	two    api.F = 0x40000000
	three  api.F = 0x40400000
	four   api.F = 0x40800000
	five   api.F = 0x40a00000
	six    api.F = 0x40c00000
	inf    api.F = 0x7f800000
	nan    api.F = 0x7fc00000
	minus  api.F = 0x80000000

	maxInt = int(^uint(0) >> 1)
	minInt = -maxInt - 1
)

func numberType() api.Type { return api.Type{Kind: 1} }

func wholeType() api.Type { return api.Type{Kind: 2} }

func vectorType(param int) api.Type { return api.Type{Kind: 3, Param: param} }

func read(text string) []api.Inst { return samples.Read(text) }

// usual is the usual code with these instructions.
func usual(text string) api.Code { return samples.Usual(text) }

// usualGrads and usualParams fit the usual code's signature.
func usualGrads() [][]api.F { return [][]api.F{{one, two, three}, {four, half, five, minus}, {six}} }

func usualParams() [][]api.F { return [][]api.F{{0xbf800000, inf, 0}, {1, 2, 3, 4}, {0x41200000}} }

// begin is a run of code that New takes.
func begin(t *testing.T, c api.Code) *Run {
	t.Helper()
	r, e := New(c)
	if r == nil || e != api.OK {
		t.Fatalf("New = %v, %d: %s", r, e, samples.Show(c))
	}
	return r
}

// stepped is what a step answers that has to be done.
func stepped(t *testing.T, r *Run, grads, params [][]api.F) [][]api.F {
	t.Helper()
	u, e := r.Step(grads, params)
	if e != api.OK {
		t.Fatalf("Step = %08x, %d", u, e)
	}
	return u
}

// done is a run of the usual code with these instructions, behind one step with the usual vectors; and its updates.
func done(t *testing.T, text string) (*Run, [][]api.F) {
	t.Helper()
	r := begin(t, usual(text))
	return r, stepped(t, r, usualGrads(), usualParams())
}

func same(a, b [][]api.F) bool {
	return slices.EqualFunc(a, b, func(v, w []api.F) bool { return slices.Equal(v, w) })
}

// holdUpdates: behind these instructions the usual code's updates are those.
func holdUpdates(t *testing.T, text string, want ...[]api.F) {
	t.Helper()
	if _, u := done(t, text); !same(u, want) {
		t.Errorf("%s: %08x, want %08x", text, u, want)
	}
}

// holdSlot: a slot holds these patterns and that whole number.
func holdSlot(t *testing.T, r *Run, n int, patterns []api.F, whole int) {
	t.Helper()
	if a, b, e := r.Slot(n); !slices.Equal(a, patterns) || b != whole || e != api.OK {
		t.Errorf("Slot(%d) = %08x, %d, %d, want %08x, %d", n, a, b, e, patterns, whole)
	}
}

// holdNumber: behind these instructions the register 0 holds that.
func holdNumber(t *testing.T, text string, want api.F) {
	t.Helper()
	r, _ := done(t, text+"; Store A0")
	if a, _, _ := r.Slot(0); len(a) != 1 || a[0] != want {
		t.Errorf("%s: %08x, want %08x", text, a, want)
	}
}

// holdWhole: behind these instructions the register 4 holds that.
func holdWhole(t *testing.T, text string, want int) {
	t.Helper()
	r, _ := done(t, text+"; Store A4 N1")
	if a, n, _ := r.Slot(1); len(a) != 0 || n != want {
		t.Errorf("%s: %08x, %d, want %d", text, a, n, want)
	}
}

// holdVector: behind these instructions the register 8 holds that.
func holdVector(t *testing.T, text string, want ...api.F) {
	t.Helper()
	r, _ := done(t, text+"; Store A8 N2")
	if a, _, _ := r.Slot(2); !slices.Equal(a, want) {
		t.Errorf("%s: %08x, want %08x", text, a, want)
	}
}

// TestExample: IN1 and IN2, the chapter's example.
func TestExample(t *testing.T) {
	v := vectorType(0)
	c := api.Code{Sign: []api.Param{{Name: "w", Kind: 1, Len: 2}}, Regs: []api.Type{v, numberType(), v}, List: read("Grad D0; Number D1 =3f000000; Mul D2 A0 B1; Out A2")}
	r := begin(t, c)
	for range 3 {
		if u := stepped(t, r, [][]api.F{{two, four}}, [][]api.F{{0, 0}}); !same(u, [][]api.F{{one, two}}) {
			t.Errorf("%08x", u)
		}
	}
}

// TestUsual: the helpers' code is what they say.
func TestUsual(t *testing.T) {
	c := usual("")
	want := []int{1, 1, 1, 1, 2, 2, 2, 2, 3, 3, 3, 3, 3, 3, 3, 3, 3, 3}
	params := []int{0, 0, 0, 0, 0, 0, 0, 0, 0, 0, 0, 0, 1, 1, 1, 1, 2, 2}
	if len(c.Regs) != len(want) {
		t.Fatalf("%v", c.Regs)
	}
	for i, r := range c.Regs {
		if r.Kind != want[i] || r.Param != params[i] {
			t.Errorf("register %d: %v", i, r)
		}
	}
}

// TestNothing: IN2, code without instructions, without registers, without parameters.
func TestNothing(t *testing.T) {
	r := begin(t, api.Code{})
	for range 3 {
		if u := stepped(t, r, nil, [][]api.F{}); len(u) != 0 {
			t.Errorf("%08x", u)
		}
	}
	holdUpdates(t, "", []api.F{0, 0, 0}, []api.F{0, 0, 0, 0}, []api.F{0})
}
