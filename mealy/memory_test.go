package mealy

import (
	"fmt"
	"slices"
	"sync"
	"testing"

	"lathe/api"
)

// roomy is the list in memory of its own, with something in the spare room behind it.
func roomy[T any](list []T, room ...T) []T {
	return append(slices.Clone(list), room...)[:len(list)]
}

func roomyVectors(list [][]api.F) [][]api.F {
	out := roomy(list, []api.F{7})
	for i := range out {
		out[i] = roomy(out[i], 7, nan)
	}
	return out
}

// opened is the list, with its spare room there for all to see.
func opened[T any](list []T) []T { return slices.Clone(list[:cap(list)]) }

func openedVectors(list [][]api.F) [][]api.F {
	out := opened(list)
	for i := range out {
		out[i] = opened(out[i])
	}
	return out
}

func roomySched(s api.Sched) api.Sched {
	s.Nums, s.Ints, s.Kids = roomy(s.Nums, inf, 8), roomy(s.Ints, -7, 8), roomy(s.Kids, api.Sched{Op: 99})
	for i := range s.Kids {
		s.Kids[i] = roomySched(s.Kids[i])
	}
	return s
}

func roomyTx(x api.Tx) api.Tx {
	x.Nums, x.Ints, x.Masks, x.Kids = roomy(x.Nums, inf, 8), roomy(x.Ints, -7, 8), roomy(x.Masks, []int{9}), roomy(x.Kids, api.Tx{Op: 99})
	for i := range x.Masks {
		x.Masks[i] = roomy(x.Masks[i], 17)
	}
	for i := range x.Kids {
		x.Kids[i] = roomyTx(x.Kids[i])
	}
	x.Sched = roomySched(x.Sched)
	return x
}

// openedTx is all that a typed program has, as a text, spare room too.
func openedTx(x api.Tx) string {
	text := fmt.Sprint(x.Op, opened(x.Nums), opened(x.Ints), openedSched(x.Sched))
	for _, mask := range opened(x.Masks) {
		text += fmt.Sprint(opened(mask))
	}
	for _, kid := range opened(x.Kids) {
		text += "(" + openedTx(kid) + ")"
	}
	return text
}

func openedSched(s api.Sched) string {
	text := fmt.Sprint(s.Op, opened(s.Nums), opened(s.Ints))
	for _, kid := range opened(s.Kids) {
		text += "(" + openedSched(kid) + ")"
	}
	return text
}

// ruin writes over all that a typed program has.
func ruin(x api.Tx) {
	for i := range x.Nums {
		x.Nums[i] = nan
	}
	for i := range x.Ints {
		x.Ints[i] = 77
	}
	for _, mask := range x.Masks {
		clear(mask)
	}
	ruinSched(x.Sched)
	for i := range x.Kids {
		ruin(x.Kids[i])
		x.Kids[i] = api.Tx{Op: 29}
	}
}

func ruinSched(s api.Sched) {
	for i := range s.Nums {
		s.Nums[i] = nan
	}
	for i := range s.Ints {
		s.Ints[i] = 77
	}
	for i := range s.Kids {
		ruinSched(s.Kids[i])
		s.Kids[i] = api.Sched{}
	}
}

func ruinVectors(vectors ...[][]api.F) {
	for _, list := range vectors {
		for i := range list {
			for j := range list[i][:cap(list[i])] {
				list[i][:cap(list[i])][j] = 0xdeadbeef
			}
			list[i] = nil
		}
	}
}

// TestProgramStays: rule 3, what New is given is neither changed nor kept: a machine goes on as it would, whatever becomes of that.
func TestProgramStays(t *testing.T) {
	r := growerOf(61)
	for range 1500 {
		list := append(r.Params(4), api.Param{Name: "x", Kind: 1, Len: 2})
		x := r.valid(1+r.Below(4), list)
		want := wordsOf(x, list)
		handed, names := roomyTx(x), roomy(list, api.Param{Name: "spare", Kind: 9})
		before, signature := openedTx(handed), fmt.Sprint(opened(names))
		m := machine(t, handed, names)
		if openedTx(handed) != before || fmt.Sprint(opened(names)) != signature {
			t.Errorf("%s was changed", brief(x))
		}
		holdStep(t, m, want, r.Moody(list, 1), r.Moody(list, 1))
		if openedTx(handed) != before || fmt.Sprint(opened(names)) != signature {
			t.Errorf("%s was changed by a step", brief(x))
		}
		ruin(handed)
		clear(names)
		for range 4 {
			holdStep(t, m, want, r.Moody(list, 1), r.Moody(list, 1))
		}
	}
}

// TestVectorsStay: rule 3, what Step is given is neither changed nor kept, its spare room neither.
func TestVectorsStay(t *testing.T) {
	r := growerOf(62)
	for range 1500 {
		list := append(r.Params(4), api.Param{Name: "x", Kind: 1, Len: 2})
		x := r.valid(1+r.Below(4), list)
		m, w := machine(t, x, list), wordsOf(x, list)
		for range 5 {
			mood := r.Below(5)
			grads, params := roomyVectors(r.Moody(list, mood)), roomyVectors(r.Moody(list, mood))
			before := fmt.Sprint(openedVectors(grads), openedVectors(params))
			holdStep(t, m, w, grads, params)
			if fmt.Sprint(openedVectors(grads), openedVectors(params)) != before {
				t.Errorf("%s changed what it was given", brief(x))
			}
			ruinVectors(grads, params)
		}
	}
}

// TestSameVectorTwice: rule 3, gradients and parameters may be the same memory, and so may two gradients.
func TestSameVectorTwice(t *testing.T) {
	list := []api.Param{{Name: "w", Kind: 1, Len: 2}, {Name: "z", Kind: 2, Len: 1}, {Name: "a", Kind: 1, Len: 2}}
	for _, text := range keepers() {
		x := typed(t, text, list)
		m, w := machine(t, x, list), wordsOf(x, list)
		v := []api.F{three, half}
		for range 4 {
			holdStep(t, m, w, [][]api.F{v, v, v}, [][]api.F{v, v, v})
			if !slices.Equal(v, []api.F{three, half}) {
				t.Fatalf("%s changed %08x", text, v)
			}
		}
	}
}

// TestUpdatesAreTheCallers: rule 3, what was answered may be written over, spare room too, and no two vectors of it share any.
func TestUpdatesAreTheCallers(t *testing.T) {
	r := growerOf(63)
	for range 1500 {
		list := append(r.Params(4), api.Param{Name: "x", Kind: 1, Len: 2}, api.Param{Name: "y", Kind: 2, Len: 2})
		x := r.valid(1+r.Below(4), list)
		m, w := machine(t, x, list), wordsOf(x, list)
		for range 5 {
			mood := r.Below(5)
			grads, params := r.Moody(list, mood), r.Moody(list, mood)
			before := fmt.Sprint(grads, params)
			c := m.Clone()
			u, want := stepped(t, m, grads, params), w.step(grads, params)
			if !same(u, want) {
				t.Errorf("%s: %08x, want %08x", brief(x), u, want)
			}
			for i := range u {
				kept := fmt.Sprint(u[:i], u[i+1:])
				for j := range u[i][:cap(u[i])] {
					u[i][:cap(u[i])][j] = 0xdeadbeef
				}
				if fmt.Sprint(u[:i], u[i+1:]) != kept {
					t.Errorf("%s: vectors share memory", brief(x))
				}
			}
			if fmt.Sprint(grads, params) != before {
				t.Errorf("%s: updates share memory with what was given", brief(x))
			}
			ruinVectors(u)
			if v := stepped(t, c, grads, params); !same(v, want) {
				t.Errorf("%s: the clone's %08x, want %08x", brief(x), v, want)
			}
		}
	}
}

// TestClone: ME1, a clone ahead of all steps, between them, of a clone; behind it neither goes on with the other.
func TestClone(t *testing.T) {
	r := growerOf(64)
	for _, text := range keepers() {
		x := typed(t, text, mixed())
		for steps := range 6 {
			m, w := machine(t, x, mixed()), wordsOf(x, mixed())
			for range steps {
				holdStep(t, m, w, r.Moody(mixed(), 0), r.Moody(mixed(), 0))
			}
			c, v := m.Clone(), w.clone()
			if c == m || c.Count() != steps {
				t.Errorf("%s: the clone's count is %d, want %d", text, c.Count(), steps)
			}
			for range 3 { // now one, now the other
				holdStep(t, m, w, r.Moody(mixed(), 0), r.Moody(mixed(), 0))
				holdStep(t, c, v, r.Moody(mixed(), 0), r.Moody(mixed(), 0))
			}
			c.Jump(7)
			v.jump(7)
			holdStep(t, m, w, r.Moody(mixed(), 0), r.Moody(mixed(), 0))
			holdStep(t, c, v, r.Moody(mixed(), 0), r.Moody(mixed(), 0))
			m.Jump(3)
			w.jump(3)
			d, z := c.Clone(), v.clone()
			for range 3 {
				holdStep(t, d, z, r.Moody(mixed(), 0), r.Moody(mixed(), 0))
				holdStep(t, m, w, r.Moody(mixed(), 0), r.Moody(mixed(), 0))
			}
			holdStep(t, c, v, r.Moody(mixed(), 0), r.Moody(mixed(), 0))
			holdInput(t, d, nil, nil)
		}
	}
}

// TestSideBySide: rule 4, machines and clones go on at the same time, each by itself.
func TestSideBySide(t *testing.T) {
	r := growerOf(65)
	var grads, params [][][]api.F
	for range 20 {
		grads, params = append(grads, r.Moody(mixed(), 1)), append(params, r.Moody(mixed(), 1))
	}
	for _, text := range keepers() {
		x := typed(t, text, mixed())
		m, w := machine(t, x, mixed()), wordsOf(x, mixed())
		holdStep(t, m, w, grads[0], params[0])
		var want [][][]api.F
		for i := range grads {
			want = append(want, w.step(grads[i], params[i]))
		}
		var group sync.WaitGroup
		for range 4 {
			c := m.Clone()
			group.Go(func() {
				for i := range grads {
					if u, e := c.Step(grads[i], params[i]); e != api.OK || !same(u, want[i]) {
						t.Errorf("%s: step %d: %08x, want %08x", text, i, u, want[i])
					}
				}
			})
		}
		group.Wait()
	}
}
