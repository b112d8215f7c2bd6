package lower

import (
	"fmt"
	"slices"
	"sync"
	"testing"

	"lathe/api"
	"lathe/ir"
	"lathe/samples"
)

func roomySched(s api.Sched) api.Sched {
	s.Nums, s.Ints, s.Kids = samples.Roomy(s.Nums, inf, 8), samples.Roomy(s.Ints, -7, 8), samples.Roomy(s.Kids, api.Sched{Op: 99})
	for i := range s.Kids {
		s.Kids[i] = roomySched(s.Kids[i])
	}
	return s
}

func roomyTx(x api.Tx) api.Tx {
	x.Nums, x.Ints, x.Masks, x.Kids = samples.Roomy(x.Nums, inf, 8), samples.Roomy(x.Ints, -7, 8), samples.Roomy(x.Masks, []int{9}), samples.Roomy(x.Kids, api.Tx{Op: 99})
	for i := range x.Masks {
		x.Masks[i] = samples.Roomy(x.Masks[i], 17)
	}
	for i := range x.Kids {
		x.Kids[i] = roomyTx(x.Kids[i])
	}
	x.Sched = roomySched(x.Sched)
	return x
}

// opened is the list with its spare room.
func opened[T any](list []T) []T { return list[:cap(list)] }

// openedTx is all that a typed program has, as a text, spare room too.
func openedTx(x api.Tx) string {
	text := fmt.Sprint(x.Op, opened(x.Nums), opened(x.Ints), openedSched(x.Sched))
	for _, mask := range opened(x.Masks) {
		text += fmt.Sprint(opened(mask))
	}
	for _, kid := range opened(x.Kids) {
		text += "(" + openedTx(kid) + ")"
	}
	return text
}

func openedSched(s api.Sched) string {
	text := fmt.Sprint(s.Op, opened(s.Nums), opened(s.Ints))
	for _, kid := range opened(s.Kids) {
		text += "(" + openedSched(kid) + ")"
	}
	return text
}

// TestArgumentsStay: rule 3, neither call changes what it is given, nor what stands in its spare room; a code is its caller's: whatever
// becomes of it is seen neither in the arguments nor in another code.
func TestArgumentsStay(t *testing.T) {
	g := growerOf(61)
	for range 800 {
		list := append(g.Params(4), api.Param{Name: "x", Kind: 1, Len: 2})
		x := g.valid(1+g.Below(4), list)
		handed, names := roomyTx(x), samples.Roomy(list, api.Param{Name: "spare", Kind: 9})
		ahead, aheadNames := openedTx(handed), fmt.Sprint(opened(names))
		w, e := Weight(handed, names)
		c, f := Lower(handed, names)
		if e != api.OK || f != api.OK {
			t.Fatalf("%d, %d", e, f)
		}
		want := samples.CloneCode(c)
		other, _ := Lower(handed, names)
		samples.RuinCode(c)
		if openedTx(handed) != ahead || fmt.Sprint(opened(names)) != aheadNames {
			t.Fatalf("another program or signature: %s over %v", brief(handed), names)
		}
		again, _ := Lower(handed, names)
		if !ir.Equal(other, want) || !ir.Equal(again, want) {
			t.Fatalf("another code of %s", brief(x))
		}
		if v, _ := Weight(handed, names); v != w {
			t.Fatalf("another weight of %s: %d, %d", brief(x), v, w)
		}
	}
}

// TestCodeStays: rule 3, a code keeps nothing of what it was made of.
func TestCodeStays(t *testing.T) {
	g := growerOf(62)
	for range 400 {
		list := append(g.Params(4), api.Param{Name: "x", Kind: 1, Len: 2})
		handed, names := roomyTx(g.valid(1+g.Below(4), list)), slices.Clone(list)
		c := coded(t, handed, names)
		want := samples.CloneCode(c)
		clear(names)
		walk(handed, func(x api.Tx) {
			clear(x.Nums)
			clear(x.Ints)
			clear(x.Sched.Nums)
			clear(x.Sched.Ints)
			for _, mask := range x.Masks {
				clear(mask)
			}
		})
		if !ir.Equal(c, want) {
			t.Fatalf("the code is another one")
		}
	}
}

// TestListsApart: rule 3, what is put to a list of a code, or to the signature, is seen in no other.
func TestListsApart(t *testing.T) {
	list := samples.Roomy(mixed(), api.Param{Name: "spare", Kind: 1, Len: 7})
	c := coded(t, typed(t, "chain(trace(0.5), ema(0.5))", mixed()), list)
	want := samples.CloneCode(c)
	_ = append(c.Sign, api.Param{Name: "more"})
	_ = append(c.Regs, api.Type{Kind: 77})
	_ = append(c.Slots, api.Slot{Int: 77})
	_ = append(c.List, api.Inst{Op: 77})
	if !ir.Equal(c, want) || list[:5][4].Name != "spare" {
		t.Errorf("another code, or another signature: %v", list[:5])
	}
}

// TestNilAndEmpty: rule 3, nil and the empty list are the same in programs and signatures.
func TestNilAndEmpty(t *testing.T) {
	bare := api.Tx{Op: 24, Masks: [][]int{nil}, Kids: []api.Tx{{Op: 9, Nums: []api.F{0, 0, 0, 0}}}}
	full := api.Tx{Op: 24, Nums: []api.F{}, Ints: []int{}, Masks: [][]int{{}}, Kids: []api.Tx{{Op: 9, Nums: []api.F{0, 0, 0, 0}, Ints: []int{}, Masks: [][]int{}, Kids: []api.Tx{}}}}
	for _, list := range [][]api.Param{nil, {}, mixed()} {
		a, b := coded(t, bare, list), coded(t, full, list)
		if !ir.Equal(a, b) {
			t.Errorf("unlike codes over %v", list)
		}
	}
	if !ir.Equal(coded(t, bare, nil), coded(t, bare, []api.Param{})) {
		t.Error("unlike codes over nil and the empty list")
	}
}

// TestSideBySide: rule 4, calls at the same time answer what they answer by themselves.
func TestSideBySide(t *testing.T) {
	texts := append(counting(), "chain(clip_by_global_norm(1.0), trace(0.5))", "multi_steps(2, scale_by_adam())", "scale_by_schedule(cosine(1.0, 5))", "masked(\"w\", apply_every(3))")
	var group sync.WaitGroup
	for _, text := range texts {
		x := typed(t, text, mixed())
		want, weight := coded(t, x, mixed()), wantWeight(x, mixed())
		for range 4 {
			group.Go(func() {
				for range 20 {
					c, e := Lower(x, mixed())
					w, f := Weight(x, mixed())
					if e != api.OK || f != api.OK || w != weight || !ir.Equal(c, want) {
						t.Errorf("%s: another answer: %d, %d, %d", text, e, w, f)
					}
				}
			})
		}
	}
	group.Wait()
}
