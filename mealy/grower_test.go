package mealy

import (
	"slices"
	"testing"

	"lathe/api"
	"lathe/check"
	"lathe/samples"
)

// A spec is a row of chapter 13: of each number how it is bounded (a: any; z: from 0; p: above 0; u: 0 to 1; b: from 0, below 1), whether
// there is a flag, a whole number and from where on, whether it has a star, and how many kids.
type spec struct {
	op    int
	nums  string
	flag  bool
	whole int // -1: none
	star  bool
	kids  int
}

func specs() []spec {
	return []spec{
		{1, "", false, -1, false, 0}, {2, "a", false, -1, false, 0}, {4, "z", false, -1, true, 0}, {5, "p", false, -1, false, 0},
		{6, "p", false, -1, false, 0}, {7, "u", true, -1, false, 0}, {8, "b", true, -1, false, 0}, {9, "bbzz", false, -1, false, 0},
		{10, "bzz", false, -1, false, 0}, {11, "zz", false, -1, false, 0}, {12, "bbzz", false, -1, false, 0}, {13, "bbzz", false, -1, false, 0},
		{14, "bbzz", false, -1, false, 0}, {15, "bb", false, -1, true, 0}, {16, "", false, -1, true, 0}, {17, "zpz", false, -1, false, 0},
		{18, "a", false, -1, false, 0}, {19, "", false, -1, false, 0}, {20, "", false, -1, false, 0}, {21, "", false, -1, true, 0},
		{22, "z", false, -1, false, 0}, {29, "", false, -1, false, 0}, {30, "", false, 1, false, 0}, {31, "bz", false, -1, false, 0},
		{32, "bbz", false, -1, false, 0}, {33, "bzz", false, -1, false, 0}, {34, "bbzza", false, -1, false, 0}, {35, "az", false, -1, false, 0},
		{36, "z", false, -1, false, 0}, {37, "p", false, -1, false, 0}, {38, "pz", false, -1, false, 0}, {39, "aa", false, -1, false, 0},
		{40, "aa", false, -1, true, 0}, {26, "", false, 1, false, 1}, {27, "", false, 0, false, 1}, {28, "", false, -1, false, 1},
		{41, "p", false, -1, false, 1}, {42, "", false, 1, false, 2}, {3, "", false, -1, false, 0}, {23, "", false, -1, false, 3},
		{24, "", false, -1, false, 1}, {25, "", false, -1, false, 2},
	}
}

// A grower makes typed programs, and vectors for them, from all over.
type grower struct{ samples.Source }

// below is a whole number from 0 to limit - 1.
func (r *grower) below(limit int) int { return int(r.Next()>>3) % limit }

// bounded is a number of a row: an ordinary one, the end of its range, or a far one.
func (r *grower) bounded(bounds byte) api.F {
	switch bounds {
	case 'u':
		return []api.F{0, minus, one, 0x3f7fffff, half, 0x3f666666, 1, 0x3e99999a}[r.below(8)]
	case 'b':
		return []api.F{0, minus, 0x3f7fffff, half, 0x3f666666, 0x3f7fbe77, 1, 0x3e99999a}[r.below(8)]
	}
	a := r.Near(one, 4)
	switch r.below(8) {
	case 0:
		a = r.Near(one, 120)
	case 1:
		a = []api.F{1, 0x007fffff, 0x00800000, most, one, 0x322bcc77, 0x358637bd, 0x7f000000}[r.below(8)]
	case 2, 3:
		if bounds != 'p' {
			a = zero
		}
	}
	if bounds == 'a' || a == zero { // minus nought is from 0 on, too
		return a | api.F(r.below(2))<<31
	}
	return a &^ minus
}

// sched is a schedule that goes up and down, stays, or is joined.
func (r *grower) sched() api.Sched {
	s := api.Sched{Op: 2, Nums: []api.F{r.bounded('a'), r.bounded('a')}, Ints: []int{1 + r.below(3), 1 + r.below(9), r.below(3)}}
	switch r.below(4) {
	case 0:
		return api.Sched{Op: 1, Nums: []api.F{r.bounded('a')}}
	case 1:
		return api.Sched{Op: 6, Ints: []int{1 + r.below(4)}, Kids: []api.Sched{s, {Op: 1, Nums: []api.F{r.bounded('a')}}}}
	case 2:
		return api.Sched{Op: 3, Nums: []api.F{r.bounded('a'), r.bounded('p')}, Ints: []int{1 + r.below(3), r.below(3)}}
	}
	return s
}

// mask is of some parameters: none, all or any.
func (r *grower) mask(count int) []int {
	var list []int
	which := r.below(4)
	for i := range count {
		if which == 1 || which > 1 && r.below(2) == 0 {
			list = append(list, i)
		}
	}
	return list
}

// program is one of at most so many transforms in one another. It may ask for what sees complex numbers: check tells.
func (r *grower) program(depth, params int) api.Tx {
	for {
		s := specs()[r.below(len(specs()))]
		if s.kids == 0 || depth > 1 {
			return r.grown(s, depth, params)
		}
	}
}

// grown is a transform of that row.
func (r *grower) grown(s spec, depth, params int) api.Tx {
	x := api.Tx{Op: s.op}
	for i := range s.nums {
		x.Nums = append(x.Nums, r.bounded(s.nums[i]))
	}
	if s.flag {
		x.Ints = []int{r.below(2)}
	}
	if s.whole >= 0 {
		x.Ints = []int{s.whole + r.below(4)}
	}
	kids := s.kids
	switch s.op {
	case 3:
		x.Sched = r.sched()
	case 23:
		kids = 1 + r.below(kids)
	case 24:
		x.Masks = [][]int{r.mask(params)}
	case 25:
		kids += r.below(2)
		for range kids - 1 {
			x.Masks = append(x.Masks, r.mask(params))
		}
	}
	for range kids {
		x.Kids = append(x.Kids, r.program(depth-1, params))
	}
	return x
}

// valid is a program that may be over a signature.
func (r *grower) valid(depth int, list []api.Param) api.Tx {
	for {
		x := r.program(depth, len(list))
		if check.Valid(x, list) == api.OK {
			return x
		}
		if x = (api.Tx{Op: 28, Kids: []api.Tx{x}}); check.Valid(x, list) == api.OK {
			return x
		}
	}
}

// list is a signature.
func (r *grower) list() []api.Param {
	all := []api.Param{}
	for i := range r.below(5) {
		all = append(all, api.Param{Name: string(rune('a' + i)), Kind: 1 + r.below(2), Len: 1 + r.below(3)})
	}
	return all
}

// vector is of ordinary numbers, of edges, or of any patterns; mood says which.
func (r *grower) vector(n, mood int) []api.F {
	list := make([]api.F, n)
	for i := range list {
		switch which := r.below(16); {
		case mood == 0 || mood == 1 && which > 0:
			list[i] = r.Near(one, 3)
		case mood == 2:
			list[i] = r.Near(one, 70)
		case mood == 3 && which > 2:
			list[i] = []api.F{0, minus, one, 0xbf800000, half, two}[r.below(6)]
		case mood == 4 && which > 1:
			list[i] = samples.Edges()[r.below(len(samples.Edges()))]
		default:
			list[i] = r.Next()
		}
	}
	return list
}

// vectors fit a signature.
func (r *grower) vectors(list []api.Param, mood int) [][]api.F {
	out := make([][]api.F, len(list))
	for i, p := range list {
		out[i] = r.vector(p.Len*p.Kind, mood)
	}
	return out
}

// holdSteps: a machine and the words go the same way for some steps, and all that is told may be.
func holdSteps(t *testing.T, r *grower, x api.Tx, list []api.Param, steps int) {
	t.Helper()
	m, w := machine(t, x, list), wordsOf(x, list)
	mood := r.below(5)
	for i := range steps {
		if r.below(4) == 0 {
			mood = r.below(5)
		}
		grads, params := r.vectors(list, mood), r.vectors(list, mood)
		if !holdStep(t, m, w, grads, params) {
			t.Errorf("in step %d of %s over %v", i, brief(x), list)
			return
		}
	}
}

// holdStep: the next step of both.
func holdStep(t *testing.T, m *Machine, w *words, grads, params [][]api.F) bool {
	t.Helper()
	got, e := m.Step(grads, params)
	want := w.step(grads, params)
	if e != api.OK || !same(got, want) || m.Count() != w.count {
		t.Errorf("Step(%08x, %08x) = %08x, %d, want %08x; count %d, want %d", grads, params, got, e, want, m.Count(), w.count)
		return false
	}
	for _, v := range got {
		if !slices.ContainsFunc(v, func(a api.F) bool { return !samples.IsTold(a) }) {
			continue
		}
		t.Errorf("a NaN that is not told: %08x", got)
		return false
	}
	return true
}

// TestRows: ME3, each row against the chapter's words, over real and complex parameters of one element and of several, with
// numbers of all kinds.
func TestRows(t *testing.T) {
	r := &grower{samples.Source(15)}
	for _, s := range specs() {
		for range 150 {
			x := r.grown(s, 2, len(mixed()))
			for _, list := range [][]api.Param{mixed(), realsOf(mixed())} {
				if check.Valid(x, list) != api.OK {
					x = api.Tx{Op: 28, Kids: []api.Tx{x}}
				}
				if check.Valid(x, list) == api.OK {
					holdSteps(t, r, x, list, 6)
				}
			}
		}
	}
}

// TestPrograms: ME1 to ME3, programs from all over, over signatures from all over.
func TestPrograms(t *testing.T) {
	r := &grower{samples.Source(2)}
	count := 30000
	if testing.Short() {
		count = 6000
	}
	ops := map[int]bool{}
	for i := range count {
		list := r.list()
		x := r.valid(1+i%5, list)
		note(ops, x)
		holdSteps(t, r, x, list, 1+r.below(8))
	}
	if len(ops) != 42 {
		t.Error(len(ops), "of 42 transforms")
	}
}

// TestWalks: ME1 and ME2, among steps jumps, clones, and vectors that do not fit: what comes behind hangs on the steps and jumps alone.
func TestWalks(t *testing.T) {
	r := &grower{samples.Source(3)}
	type walker struct {
		m *Machine
		w *words
	}
	for range 1500 {
		list := append(r.list(), api.Param{Name: "last", Kind: 1, Len: 2})
		x := r.valid(1+r.below(5), list)
		walkers := []walker{{machine(t, x, list), wordsOf(x, list)}}
		for range 15 {
			at := walkers[r.below(len(walkers))]
			switch r.below(8) {
			case 0:
				to := []int{0, 1, 2, maxCount - 2, maxCount - 1, maxCount, r.below(50)}[r.below(7)]
				if e := at.m.Jump(to); e != api.OK {
					t.Errorf("Jump(%d) = %d", to, e)
				}
				at.w.jump(to)
			case 1:
				walkers = append(walkers, walker{at.m.Clone(), at.w.clone()})
			case 2:
				holdInput(t, at.m, r.vectors(list, 1), r.vectors(list[1:], 1))
				holdInput(t, at.m, r.vectors(list[1:], 1), r.vectors(list, 1))
			case 3:
				holdJump(t, at.m, []int{-1, maxCount + 1}[r.below(2)])
			default:
				mood := r.below(5)
				if !holdStep(t, at.m, at.w, r.vectors(list, mood), r.vectors(list, mood)) {
					t.Errorf("of %s over %v", brief(x), list)
				}
			}
		}
	}
}
