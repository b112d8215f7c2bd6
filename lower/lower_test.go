package lower

import (
	"fmt"
	"slices"
	"testing"

	"lathe/api"
	"lathe/check"
	"lathe/interp"
	"lathe/mealy"
	"lathe/parse"
	"lathe/samples"
)

// The document's numbers once more, so that a change of package api is seen.
const (
	zero  api.F = 0
	one   api.F = 0x3f800000
	two   api.F = 0x40000000
	three api.F = 0x40400000
	four  api.F = 0x40800000
	half  api.F = 0x3f000000
	minus api.F = 0x80000000
	inf   api.F = 0x7f800000
	nan   api.F = 0x7fc00000

	errArg     api.Errno = 1
	errLong    api.Errno = 2
	errDeep    api.Errno = 81
	errMany    api.Errno = 82
	errParam   api.Errno = 100
	errTwice   api.Errno = 101
	errTotal   api.Errno = 102
	errComplex api.Errno = 135
	errSlots   api.Errno = 180
	errSize    api.Errno = 181

	maxDepth = 64
	maxNodes = 4096
	maxCount = 1<<31 - 1

	opLoop = 36
	opNext = 37
)

// real1 is one real parameter of one element.
func real1() []api.Param { return []api.Param{{Name: "w", Kind: 1, Len: 1}} }

// complex1 is one complex parameter of one element.
func complex1() []api.Param { return []api.Param{{Name: "z", Kind: 2, Len: 1}} }

// mixed is of real and complex parameters, of one element and of several.
func mixed() []api.Param {
	return []api.Param{{Name: "w", Kind: 1, Len: 3}, {Name: "z", Kind: 2, Len: 2}, {Name: "a", Kind: 1, Len: 1}, {Name: "y", Kind: 2, Len: 1}}
}

// realsOf is a signature with all parameters real.
func realsOf(list []api.Param) []api.Param {
	out := slices.Clone(list)
	for i := range out {
		out[i].Kind = 1
	}
	return out
}

// typed is the typed program of a text.
func typed(t *testing.T, text string, list []api.Param) api.Tx {
	t.Helper()
	node, e, at := parse.Parse(text)
	if e != api.OK {
		t.Fatalf("%s: %d at %d", text, e, at)
	}
	x, e, at := check.Check(node, list)
	if e != api.OK {
		t.Fatalf("%s: %d at %d", text, e, at)
	}
	return x
}

// brief is a typed program, or the beginning of a long one.
func brief(x api.Tx) string {
	text := fmt.Sprintf("%x", x)
	if len(text) > 300 {
		return text[:300] + ".."
	}
	return text
}

// coded is the code of a program that must have one.
func coded(t *testing.T, x api.Tx, list []api.Param) api.Code {
	t.Helper()
	c, e := Lower(x, list)
	if e != api.OK {
		t.Fatalf("Lower(%s) = %d", brief(x), e)
	}
	return c
}

// running is a run of code that must be well formed.
func running(t *testing.T, c api.Code) *interp.Run {
	t.Helper()
	r, e := interp.New(c)
	if e != api.OK {
		t.Fatalf("interp.New = %d of %s", e, samples.Show(c))
	}
	return r
}

// meaning is the machine of a program.
func meaning(t *testing.T, x api.Tx, list []api.Param) *mealy.Machine {
	t.Helper()
	m, e := mealy.New(x, list)
	if e != api.OK {
		t.Fatalf("mealy.New(%s) = %d", brief(x), e)
	}
	return m
}

func same(a, b [][]api.F) bool {
	return slices.EqualFunc(a, b, func(x, y []api.F) bool { return slices.Equal(x, y) })
}

// holdStep: LO3, the next step of a run and of a machine tells the same.
func holdStep(t *testing.T, r *interp.Run, m *mealy.Machine, grads, params [][]api.F) bool {
	t.Helper()
	got, e := r.Step(grads, params)
	want, f := m.Step(grads, params)
	if e != api.OK || f != api.OK || !same(got, want) {
		t.Errorf("Step(%08x, %08x) = %08x, %d, want %08x, %d", grads, params, got, e, want, f)
		return false
	}
	return true
}

// A grower makes typed programs, and vectors for them, from all over.
type grower struct{ samples.Grower }

func growerOf(seed int) *grower { return &grower{samples.Grower{Source: samples.Source(seed)}} }

// valid is a program that may be over a signature.
func (r *grower) valid(depth int, list []api.Param) api.Tx {
	return r.Program(depth, len(list), func(x api.Tx) bool { return check.Valid(x, list) == api.OK })
}

// vectors fit a signature; now and then all of them are NaNs that are never told.
func (r *grower) vectors(list []api.Param, mood int) [][]api.F {
	vectors := r.Moody(list, mood)
	if r.Below(20) > 0 {
		return vectors
	}
	for _, v := range vectors {
		for i := range v {
			v[i] = samples.NaNs()[r.Below(len(samples.NaNs()))]
		}
	}
	return vectors
}

// holdSteps: LO3, a run of code and a machine, both at a count, go the same way for some steps.
func holdSteps(t *testing.T, g *grower, x api.Tx, list []api.Param, count, steps int) {
	t.Helper()
	r, m := running(t, begunAt(coded(t, x, list), count)), meaning(t, x, list)
	m.Jump(count)
	mood := g.Below(samples.Moods)
	for i := range steps {
		if g.Below(4) == 0 {
			mood = g.Below(samples.Moods)
		}
		if !holdStep(t, r, m, g.vectors(list, mood), g.vectors(list, mood)) {
			t.Errorf("in step %d from the count %d of %s over %v", i, count, brief(x), list)
			return
		}
	}
}

// begunAt is code with a number in the place of Int of all kept slots of whole numbers.
func begunAt(c api.Code, count int) api.Code {
	c.Slots = slices.Clone(c.Slots)
	for i, s := range c.Slots {
		if s.Keep && s.Type.Kind == api.TypeWhole && count > 0 {
			c.Slots[i].Int = count
		}
	}
	return c
}

// A way is a program over one real parameter of one element: its gradients, its parameters, what it answers.
type way struct {
	text                string
	grads, params, want []api.F
}

// times is a number so many times.
func times(n int, a api.F) []api.F { return slices.Repeat([]api.F{a}, n) }

// TestWays: LO3, the examples of the chapters on what programs mean, by their code.
func TestWays(t *testing.T) {
	for _, w := range []way{
		{"scale(0.5)", times(1, two), nil, []api.F{one}},
		{"trace(0.5)", times(3, two), nil, []api.F{two, three, 0x40600000}},
		{"trace(0.5, true)", times(2, two), nil, []api.F{three, 0x40600000}},
		{"ema(0.5)", times(2, two), nil, []api.F{two, two}},
		{"clip_by_global_norm(1.0)", times(1, two), nil, []api.F{one}},
		{"multi_steps(2, identity())", times(4, two), nil, []api.F{zero, two, zero, two}},
		{"apply_every(2)", times(2, two), nil, []api.F{zero, four}},
		{"apply_if_finite(identity(), 1)", times(3, nan), nil, []api.F{zero, nan, nan}},
		{"scale_by_schedule(linear(1.0, 0.0, 2))", times(4, two), nil, []api.F{two, one, zero, zero}},
		{"keep_params_nonnegative()", times(1, 0xc0000000), nil, []api.F{0xbf800000}},
		{"scale(2)", times(1, one), nil, []api.F{two}},
		{"adam(0.001)", times(4, one), nil, []api.F{0xba83126f, 0xba831252, 0xba831234, 0xba831255}},
		{"chain(multi_steps(2, scale(0.5)), trace(0.5))", times(4, one), nil, []api.F{zero, half, 0x3e800000, 0x3f200000}},
		{"scale_by_schedule(cosine(1.0, 4))", times(4, one), nil, []api.F{one, 0x3f5a827a, half, 0x3e15f618}},
		{"until(1, scale(2), scale(3))", times(3, one), nil, []api.F{two, three, three}},
		{"zero_nans()", times(1, 0x7f800001), nil, []api.F{zero}},
		{"identity()", times(1, 0x7f800001), nil, []api.F{nan}},
	} {
		r := running(t, coded(t, typed(t, w.text, real1()), real1()))
		for i, g := range w.grads {
			p := one
			if len(w.params) > 0 {
				p = w.params[i]
			}
			if got, e := r.Step([][]api.F{{g}}, [][]api.F{{p}}); e != api.OK || !same(got, [][]api.F{{w.want[i]}}) {
				t.Errorf("%s: step %d: %08x, %d, want %08x", w.text, i, got, e, w.want[i])
			}
		}
	}
}

// TestFirstExample: LO1 to LO4, the chapter's first example.
func TestFirstExample(t *testing.T) {
	list := []api.Param{{Name: "w", Kind: 1, Len: 3}}
	x := typed(t, "scale(0.5)", list)
	holdWeight(t, x, list, 2)
	c := holdForm(t, x, list)
	r := running(t, c)
	if got, e := r.Step([][]api.F{{two, 0xc0800000, minus}}, [][]api.F{{one, one, one}}); e != api.OK || !same(got, [][]api.F{{one, 0xc0000000, minus}}) {
		t.Errorf("%08x, %d", got, e)
	}
}

// TestSixthExampleOfTheWhole: its weight, its first two steps, and that five numbers are kept.
func TestSixthExampleOfTheWhole(t *testing.T) {
	list := []api.Param{{Name: "w", Kind: 1, Len: 2}, {Name: "z", Kind: 2, Len: 1}}
	x := typed(t, "let lr = warmup(0.1, 2, constant(0.1)); chain(clip_by_global_norm(1.0), trace(0.5), scale_by_learning_rate(lr))", list)
	holdWeight(t, x, list, 31)
	c := holdForm(t, x, list)
	r := running(t, c)
	grads, params := [][]api.F{{two, zero}, {one, two}}, [][]api.F{{zero, zero}, {zero, zero}}
	for i, want := range [][][]api.F{{{minus, minus}, {minus, minus}}, {{0xbd4ccccd, minus}, {0xbccccccd, 0xbd4ccccd}}} {
		if got, e := r.Step(grads, params); e != api.OK || !same(got, want) {
			t.Errorf("step %d: %08x, %d, want %08x", i, got, e, want)
		}
	}
	if numbers := keptNumbers(c); numbers != 5 {
		t.Errorf("%d numbers are kept, want 5", numbers)
	}
}
