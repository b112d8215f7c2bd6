package mealy

import (
	"slices"
	"testing"

	"lathe/api"
	"lathe/check"
	"lathe/samples"
)

// A grower makes typed programs, and vectors for them, from all over.
type grower struct{ samples.Grower }

func growerOf(seed int) *grower { return &grower{samples.Grower{Source: samples.Source(seed)}} }

// valid is a program that may be over a signature.
func (r *grower) valid(depth int, list []api.Param) api.Tx {
	return r.Program(depth, len(list), func(x api.Tx) bool { return check.Valid(x, list) == api.OK })
}

// holdSteps: a machine and the words go the same way for some steps, and all that is told may be.
func holdSteps(t *testing.T, r *grower, x api.Tx, list []api.Param, steps int) {
	t.Helper()
	m, w := machine(t, x, list), wordsOf(x, list)
	mood := r.Below(5)
	for i := range steps {
		if r.Below(4) == 0 {
			mood = r.Below(5)
		}
		grads, params := r.Moody(list, mood), r.Moody(list, mood)
		if !holdStep(t, m, w, grads, params) {
			t.Errorf("in step %d of %s over %v", i, brief(x), list)
			return
		}
	}
}

// holdStep: the next step of both.
func holdStep(t *testing.T, m *Machine, w *words, grads, params [][]api.F) bool {
	t.Helper()
	got, e := m.Step(grads, params)
	want := w.step(grads, params)
	if e != api.OK || !same(got, want) || m.Count() != w.count {
		t.Errorf("Step(%08x, %08x) = %08x, %d, want %08x; count %d, want %d", grads, params, got, e, want, m.Count(), w.count)
		return false
	}
	for _, v := range got {
		if !slices.ContainsFunc(v, func(a api.F) bool { return !samples.IsTold(a) }) {
			continue
		}
		t.Errorf("a NaN that is not told: %08x", got)
		return false
	}
	return true
}

// TestRows: ME3, each row against the chapter's words, over real and complex parameters of one element and of several, with
// numbers of all kinds.
func TestRows(t *testing.T) {
	r := growerOf(15)
	for _, s := range samples.Rows() {
		for range 150 {
			x := r.Transform(s, 2, len(mixed()))
			for _, list := range [][]api.Param{mixed(), realsOf(mixed())} {
				if check.Valid(x, list) != api.OK {
					x = api.Tx{Op: 28, Kids: []api.Tx{x}}
				}
				if check.Valid(x, list) == api.OK {
					holdSteps(t, r, x, list, 6)
				}
			}
		}
	}
}

// TestPrograms: ME1 to ME3, programs from all over, over signatures from all over.
func TestPrograms(t *testing.T) {
	r := growerOf(2)
	count := 30000
	if testing.Short() {
		count = 6000
	}
	ops := map[int]bool{}
	for i := range count {
		list := r.Params(4)
		x := r.valid(1+i%5, list)
		note(ops, x)
		holdSteps(t, r, x, list, 1+r.Below(8))
	}
	if len(ops) != 42 {
		t.Error(len(ops), "of 42 transforms")
	}
}

// TestWalks: ME1 and ME2, among steps jumps, clones, and vectors that do not fit: what comes behind hangs on the steps and jumps alone.
func TestWalks(t *testing.T) {
	r := growerOf(3)
	type walker struct {
		m *Machine
		w *words
	}
	for range 1500 {
		list := append(r.Params(4), api.Param{Name: "last", Kind: 1, Len: 2})
		x := r.valid(1+r.Below(5), list)
		walkers := []walker{{machine(t, x, list), wordsOf(x, list)}}
		for range 15 {
			at := walkers[r.Below(len(walkers))]
			switch r.Below(8) {
			case 0:
				to := []int{0, 1, 2, maxCount - 2, maxCount - 1, maxCount, r.Below(50)}[r.Below(7)]
				if e := at.m.Jump(to); e != api.OK {
					t.Errorf("Jump(%d) = %d", to, e)
				}
				at.w.jump(to)
			case 1:
				walkers = append(walkers, walker{at.m.Clone(), at.w.clone()})
			case 2:
				holdInput(t, at.m, r.Moody(list, 1), r.Moody(list[1:], 1))
				holdInput(t, at.m, r.Moody(list[1:], 1), r.Moody(list, 1))
			case 3:
				holdJump(t, at.m, []int{-1, maxCount + 1}[r.Below(2)])
			default:
				mood := r.Below(5)
				if !holdStep(t, at.m, at.w, r.Moody(list, mood), r.Moody(list, mood)) {
					t.Errorf("of %s over %v", brief(x), list)
				}
			}
		}
	}
}
