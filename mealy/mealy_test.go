package mealy

import (
	"fmt"
	"slices"
	"testing"

	"lathe/api"
	"lathe/check"
	"lathe/parse"
)

// The document's numbers once more, so that a change of package api is seen.
const (
	zero  api.F = 0
	one   api.F = 0x3f800000
	two   api.F = 0x40000000
	three api.F = 0x40400000
	four  api.F = 0x40800000
	half  api.F = 0x3f000000
	minus api.F = 0x80000000
	inf   api.F = 0x7f800000
	nan   api.F = 0x7fc00000
	most  api.F = 0x7f7fffff

	errArg     api.Errno = 1
	errLong    api.Errno = 2
	errDeep    api.Errno = 81
	errMany    api.Errno = 82
	errParam   api.Errno = 100
	errTwice   api.Errno = 101
	errTotal   api.Errno = 102
	errComplex api.Errno = 135
	errInput   api.Errno = 170

	maxDepth = 64
	maxNodes = 4096
	maxCount = 1<<31 - 1
)

// real1 is one real parameter of one element.
func real1() []api.Param { return []api.Param{{Name: "w", Kind: 1, Len: 1}} }

// mixed is of real and complex parameters, of one element and of several.
func mixed() []api.Param {
	return []api.Param{{Name: "w", Kind: 1, Len: 3}, {Name: "z", Kind: 2, Len: 2}, {Name: "a", Kind: 1, Len: 1}, {Name: "y", Kind: 2, Len: 1}}
}

// realsOf is a signature with all parameters real.
func realsOf(list []api.Param) []api.Param {
	out := slices.Clone(list)
	for i := range out {
		out[i].Kind = 1
	}
	return out
}

// typed is the typed program of a text.
func typed(t *testing.T, text string, list []api.Param) api.Tx {
	t.Helper()
	node, e, at := parse.Parse(text)
	if e != api.OK {
		t.Fatalf("%s: %d at %d", text, e, at)
	}
	x, e, at := check.Check(node, list)
	if e != api.OK {
		t.Fatalf("%s: %d at %d", text, e, at)
	}
	return x
}

// brief is a typed program, or the beginning of a long one.
func brief(x api.Tx) string {
	text := fmt.Sprintf("%x", x)
	if len(text) > 300 {
		return text[:300] + ".."
	}
	return text
}

// machine is one that must be made.
func machine(t *testing.T, x api.Tx, list []api.Param) *Machine {
	t.Helper()
	m, e := New(x, list)
	if e != api.OK || m == nil {
		t.Fatalf("New(%s) = %v, %d", brief(x), m, e)
	}
	return m
}

// stepped is what a step answers that must be done.
func stepped(t *testing.T, m *Machine, grads, params [][]api.F) [][]api.F {
	t.Helper()
	u, e := m.Step(grads, params)
	if e != api.OK {
		t.Fatalf("Step(%08x, %08x): %d", grads, params, e)
	}
	return u
}

func same(a, b [][]api.F) bool {
	return slices.EqualFunc(a, b, func(x, y []api.F) bool { return slices.Equal(x, y) })
}

// A run is a program over one real parameter of one element: its gradients, its parameters, what it answers.
type run struct {
	text                string
	grads, params, want []api.F
}

func holdRuns(t *testing.T, runs []run) {
	t.Helper()
	for _, r := range runs {
		x := typed(t, r.text, real1())
		m, w := machine(t, x, real1()), wordsOf(x, real1())
		for i, g := range r.grads {
			p := one
			if len(r.params) > 0 {
				p = r.params[i%len(r.params)]
			}
			got := stepped(t, m, [][]api.F{{g}}, [][]api.F{{p}})
			if !same(got, [][]api.F{{r.want[i]}}) {
				t.Errorf("%s: step %d: %08x, want %08x", r.text, i, got, r.want[i])
			}
			if told := w.step([][]api.F{{g}}, [][]api.F{{p}}); !same(told, [][]api.F{{r.want[i]}}) {
				t.Errorf("%s: step %d: the words say %08x, want %08x", r.text, i, told, r.want[i])
			}
		}
	}
}

// times is a number so many times.
func times(n int, a api.F) []api.F { return slices.Repeat([]api.F{a}, n) }

// TestExamples: ME2 and ME3, the chapter's examples, and those of the whole that hang on it.
func TestExamples(t *testing.T) {
	holdRuns(t, []run{
		{"scale(0.5)", times(1, two), nil, []api.F{one}},
		{"trace(0.5)", times(3, two), nil, []api.F{two, three, 0x40600000}},
		{"trace(0.5, true)", times(2, two), nil, []api.F{three, 0x40600000}},
		{"ema(0.5)", times(2, two), nil, []api.F{two, two}},
		{"clip_by_global_norm(1.0)", times(1, two), nil, []api.F{one}},
		{"multi_steps(2, identity())", times(4, two), nil, []api.F{zero, two, zero, two}},
		{"apply_every(2)", times(2, two), nil, []api.F{zero, four}},
		{"apply_if_finite(identity(), 1)", times(3, nan), nil, []api.F{zero, nan, nan}},
		{"scale_by_schedule(linear(1.0, 0.0, 2))", times(4, two), nil, []api.F{two, one, zero, zero}},
		{"keep_params_nonnegative()", times(1, 0xc0000000), nil, []api.F{0xbf800000}},
		{"scale(2)", times(1, one), nil, []api.F{two}},
		{"adam(0.001)", times(4, one), nil, []api.F{0xba83126f, 0xba831252, 0xba831234, 0xba831255}},
		{"chain(multi_steps(2, scale(0.5)), trace(0.5))", times(4, one), nil, []api.F{zero, half, 0x3e800000, 0x3f200000}},
		{"scale_by_schedule(cosine(1.0, 4))", times(4, one), nil, []api.F{one, 0x3f5a827a, half, 0x3e15f618}},
		{"until(1, scale(2), scale(3))", times(3, one), nil, []api.F{two, three, three}},
		{"zero_nans()", times(1, 0x7f800001), nil, []api.F{zero}},
		{"identity()", times(1, 0x7f800001), nil, []api.F{nan}},
	})
}

// TestExampleOfTwo: ME2 and ME3, the sixth example of the whole, over a real and a complex parameter.
func TestExampleOfTwo(t *testing.T) {
	list := []api.Param{{Name: "w", Kind: 1, Len: 2}, {Name: "z", Kind: 2, Len: 1}}
	x := typed(t, "let lr = warmup(0.1, 2, constant(0.1)); chain(clip_by_global_norm(1.0), trace(0.5), scale_by_learning_rate(lr))", list)
	m := machine(t, x, list)
	grads, params := [][]api.F{{two, zero}, {one, two}}, [][]api.F{{zero, zero}, {zero, zero}}
	for i, want := range [][][]api.F{{{minus, minus}, {minus, minus}}, {{0xbd4ccccd, minus}, {0xbccccccd, 0xbd4ccccd}}} {
		if got := stepped(t, m, grads, params); !same(got, want) {
			t.Errorf("step %d: %08x, want %08x", i, got, want)
		}
	}
	if m.Count() != 2 {
		t.Error(m.Count())
	}
}
