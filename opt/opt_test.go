package opt

import (
	"slices"
	"strconv"
	"testing"

	"lathe/alloc"
	"lathe/api"
	"lathe/fold"
	"lathe/fuse"
	"lathe/interp"
	"lathe/ir"
	"lathe/lower"
	"lathe/prune"
	"lathe/reuse"
	"lathe/samples"
)

// The document's numbers once more, so that a change of package api is seen.
const (
	errArg   api.Errno = 1
	errCode  api.Errno = 160
	errSlots api.Errno = 180
	errSize  api.Errno = 181

	passFold  = 1
	passReuse = 2
	passPrune = 4
	passFuse  = 8
	passAlloc = 16
	subsets   = 32

	maxRegs  = 1 << 14
	maxSlots = 1 << 12
	maxCode  = 1 << 15
	maxNest  = 64
)

func read(text string) []api.Inst { return samples.Read(text) }

// usual is the usual code of the tests: its registers 0 to 3 are numbers, 4 to 7 whole numbers, 8 to 11 vectors of w, 12 to 15 of z, 16
// and 17 of u. The slots 0 to 4 are kept, 5 to 9 are not: a number, a whole number, vectors of w, z, u.
func usual(text string) api.Code { return samples.Usual(text) }

// passes are all of them, in the chapter's order.
func passes() []func(c api.Code) (api.Code, api.Errno) {
	return []func(c api.Code) (api.Code, api.Errno){fold.Fold, reuse.Reuse, prune.Prune, fuse.Fuse, alloc.Alloc}
}

// An answer is what a call answers that makes code.
type answer struct {
	code api.Code
	err  api.Errno
}

// behind is what the passes answer, called one behind the other, once each: an answer for each choice of them.
func behind(c api.Code) []answer {
	list := []answer{{c, api.OK}}
	for _, pass := range passes() {
		for _, a := range list { // those of the choices without this pass
			if a.err == api.OK {
				a.code, a.err = pass(a.code)
			}
			list = append(list, a)
		}
	}
	return list
}

// ran is what Run answers of code that it must take.
func ran(t *testing.T, c api.Code, choice int) api.Code {
	t.Helper()
	d, e := Run(c, choice)
	if e != api.OK {
		t.Fatalf("Run(.., %d) = %d: %s", choice, e, samples.Show(c))
	}
	return d
}

// isNothing tells whether an answer is the zero value.
func isNothing(c api.Code) bool {
	return c.Sign == nil && c.Regs == nil && c.Slots == nil && c.List == nil
}

// holdForm: OP1 to OP4 of code and a choice of passes that Run must take, all but what the code means; what Run answers.
func holdForm(t *testing.T, c api.Code, choice int) api.Code {
	t.Helper()
	d := ran(t, c, choice)
	holdAnswer(t, c, d, choice, behind(c)[choice])
	if again := ran(t, c, choice); !ir.Equal(again, d) {
		t.Fatalf("passes %d: another code when it is asked again: %s, then %s", choice, samples.Show(d), samples.Show(again))
	}
	return d
}

// holdAnswer: OP1 to OP4 of what Run answers of code and a choice of passes, and of what these answer.
func holdAnswer(t *testing.T, c, d api.Code, choice int, by answer) {
	t.Helper()
	if wrong := fault(c, d, choice, by); wrong != "" {
		t.Fatalf("passes %d: %s: %s became %s", choice, wrong, samples.Show(c), samples.Show(d))
	}
}

// fault is the first that is wrong with an answer of Run; empty, if nothing is.
func fault(c, d api.Code, choice int, by answer) string {
	isFused := choice&(passFuse|passAlloc) == passFuse && isBounded(c)
	e, at := ir.Check(d)
	switch {
	case e != api.OK:
		return "ir.Check = " + strconv.Itoa(int(e)) + " at " + strconv.Itoa(at)
	case by.err != api.OK || !ir.Equal(d, by.code):
		return "the passes make another code, " + samples.Show(by.code)
	case choice == 0 && !ir.Equal(d, c):
		return "another code without passes"
	case !slices.Equal(d.Sign, c.Sign):
		return "another signature"
	case isMoreKept(c, d):
		return "more is kept"
	case choice&passAlloc != 0 && !samples.IsFew(samples.Registers(d)):
		return "too many registers"
	case isFused && samples.LooseAt(d) >= 0:
		return "loose at " + strconv.Itoa(samples.LooseAt(d))
	case isFused && samples.NeighboursAt(d) >= 0:
		return "neighbours at " + strconv.Itoa(samples.NeighboursAt(d))
	}
	return ""
}

// isMoreKept tells whether one code keeps more slots, or more numbers, than another one that it came of.
func isMoreKept(c, d api.Code) bool {
	before, numbers := ir.Kept(c)
	after, more := ir.Kept(d)
	return after > before || more > numbers
}

// isBounded tells whether OP4 speaks of what PassFuse leaves of a code.
func isBounded(c api.Code) bool {
	return len(samples.Bare(c)) <= 10922 && samples.Counts(c)[34] < maxNest
}

// vectorsOf are gradients, or parameters, of some mood: any patterns, ordinary numbers, far ones, edges.
func vectorsOf(g *samples.Grower, list []api.Param) [][]api.F {
	if mood := g.Below(samples.Moods + 1); mood < samples.Moods {
		return g.Moody(list, mood)
	}
	return g.Vectors(list)
}

// same tells whether vectors have the same patterns.
func same(u, v [][]api.F) bool { return slices.EqualFunc(u, v, slices.Equal[[]api.F]) }

// running is a run of code.
func running(t *testing.T, c api.Code) *interp.Run {
	t.Helper()
	r, e := interp.New(c)
	if e != api.OK {
		t.Fatalf("interp.New = %d: %s", e, samples.Show(c))
	}
	return r
}

// A crew is code and what it becomes behind each choice of the passes, at work side by side.
type crew struct {
	codes []api.Code // the first is the code itself, then one for each choice
	runs  []*interp.Run
}

// crewOf: OP1 to OP4 of code and each choice of the passes, all but what the code means; and the crew of it.
func crewOf(t *testing.T, c api.Code) *crew {
	t.Helper()
	w := &crew{codes: []api.Code{c}}
	for choice, by := range behind(c) {
		d := ran(t, c, choice)
		holdAnswer(t, c, d, choice, by)
		w.codes = append(w.codes, d)
	}
	for _, c := range w.codes {
		w.runs = append(w.runs, running(t, c))
	}
	return w
}

// step: OP3, a step of all of them, with the same updates.
func (w *crew) step(t *testing.T, grads, params [][]api.F) [][]api.F {
	t.Helper()
	var first [][]api.F
	for n, r := range w.runs {
		u, e := r.Step(grads, params)
		if e != api.OK {
			t.Fatalf("Step = %d: %s", e, samples.Show(w.codes[n]))
		}
		if n == 0 {
			first = u
		}
		if !same(u, first) {
			t.Fatalf("passes %d: Step(%08x, %08x) = %08x, want %08x: %s became %s", n-1, grads, params, u, first, samples.Show(w.codes[0]), samples.Show(w.codes[n]))
		}
	}
	return first
}

// hold: OP1 to OP4 of code and each choice of the passes, in so many steps.
func hold(t *testing.T, g *samples.Grower, c api.Code, steps int) *crew {
	t.Helper()
	w := crewOf(t, c)
	for range steps {
		w.step(t, vectorsOf(g, c.Sign), vectorsOf(g, c.Sign))
	}
	return w
}

// holdUsual: OP1 to OP4 of the usual code with these instructions, whose blocks are done or left out by its kept whole number.
func holdUsual(t *testing.T, text string) {
	t.Helper()
	for _, whole := range []int{0, 5} {
		c := usual(text)
		c.Slots[1].Int = whole
		hold(t, &samples.Grower{Source: 1}, c, 4)
	}
}

// half is the code of scale(0.5) over [w real 3].
func half(t *testing.T) api.Code {
	t.Helper()
	c, e := lower.Lower(api.Tx{Op: api.TxScale, Nums: []api.F{api.Half}}, []api.Param{{Name: "w", Kind: 1, Len: 3}})
	if e != api.OK {
		t.Fatalf("Lower = %d", e)
	}
	return c
}

// TestExamples: OP1 to OP4, the chapter's examples.
func TestExamples(t *testing.T) {
	c := half(t)
	if d, e := Run(c, 32); e != errArg || !isNothing(d) {
		t.Errorf("Run(c, 32) = %s, %d", samples.Show(d), e)
	}
	if d := ran(t, c, 0); !ir.Equal(d, c) {
		t.Errorf("Run(c, 0) = %s", samples.Show(d))
	}
	d := holdForm(t, c, 31)
	begin, end := slices.Index(d.List, api.Inst{Op: 36}), slices.Index(d.List, api.Inst{Op: 37})
	if count := samples.Counts(d); count[36] != 1 || count[37] != 1 || begin < 0 || end-begin-1 > 4 {
		t.Errorf("%s", samples.Show(d))
	}
	w := hold(t, &samples.Grower{Source: 2}, c, 4)
	u := w.step(t, [][]api.F{{0x3f800000, 0x40000000, 0x7f800000}}, [][]api.F{{0, 0, 0}})
	if !slices.Equal(u[0], []api.F{0x3f000000, 0x3f800000, 0x7f800000}) {
		t.Errorf("%08x", u)
	}
}

// TestRows: the passes that the chapter names stand in the table by the document's numbers, each once, in its order.
func TestRows(t *testing.T) {
	var bits []int
	for _, r := range rows() {
		bits = append(bits, r.bit)
	}
	if !slices.Equal(bits, []int{passFold, passReuse, passPrune, passFuse, passAlloc}) {
		t.Errorf("%v", bits)
	}
}
