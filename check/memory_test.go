package check

import (
	"cmp"
	"fmt"
	"slices"
	"strings"
	"sync"
	"testing"
	"unsafe"

	"lathe/api"
	"lathe/samples"
)

// A stretch of memory.
type stretch struct {
	from, to uintptr
	what     string
}

func listStretch[T any](list []T, what string) stretch {
	var one T
	from := uintptr(unsafe.Pointer(unsafe.SliceData(list)))
	return stretch{from, from + uintptr(cap(list))*unsafe.Sizeof(one), what}
}

// treeLists are the stretches of a tree's lists, spare room too.
func treeLists(n api.Node) []stretch {
	all := []stretch{listStretch(n.Args, "a list of the tree")}
	for _, a := range n.Args {
		all = append(all, treeLists(a)...)
	}
	return all
}

// txLists are those of a typed program.
func txLists(t api.Tx, whose string) []stretch {
	all := []stretch{listStretch(t.Nums, "Nums of "+whose), listStretch(t.Ints, "Ints of "+whose), listStretch(t.Masks, "Masks of "+whose), listStretch(t.Kids, "Kids of "+whose)}
	for _, m := range t.Masks {
		all = append(all, listStretch(m, "a mask of "+whose))
	}
	for _, k := range t.Kids {
		all = append(all, txLists(k, whose)...)
	}
	return append(all, schedLists(t.Sched, whose)...)
}

func schedLists(s api.Sched, whose string) []stretch {
	all := []stretch{listStretch(s.Nums, "a schedule's Nums of "+whose), listStretch(s.Ints, "a schedule's Ints of "+whose), listStretch(s.Kids, "a schedule's Kids of "+whose)}
	for _, k := range s.Kids {
		all = append(all, schedLists(k, whose)...)
	}
	return all
}

// holdApart: no two stretches have a byte in common.
func holdApart(t *testing.T, all ...stretch) {
	t.Helper()
	list := slices.DeleteFunc(all, func(s stretch) bool { return s.from == s.to })
	slices.SortFunc(list, func(a, b stretch) int { return cmp.Compare(a.from, b.from) })
	for i := 1; i < len(list); i++ {
		if list[i].from < list[i-1].to {
			t.Errorf("%s and %s share memory", list[i-1].what, list[i].what)
			return
		}
	}
}

// roomy is the list in memory of its own, with something in the spare room behind it.
func roomy[T any](list []T, room ...T) []T {
	return append(slices.Clone(list), room...)[:len(list)]
}

// roomyTree is the tree in such memory, texts too.
func roomyTree(n api.Node) api.Node {
	n.Name, n.Key = strings.Clone(n.Name), strings.Clone(n.Key)
	n.Args = roomy(n.Args, call("adam"), text("room"))
	for i := range n.Args {
		n.Args[i] = roomyTree(n.Args[i])
	}
	return n
}

func roomyTx(t api.Tx) api.Tx {
	t.Nums, t.Ints, t.Sched = roomy(t.Nums, 7, 8), roomy(t.Ints, 7, 8), roomySched(t.Sched)
	t.Masks, t.Kids = roomy(t.Masks, []int{9}), roomy(t.Kids, api.Tx{Op: 99})
	for i := range t.Masks {
		t.Masks[i] = roomy(t.Masks[i], 0)
	}
	for i := range t.Kids {
		t.Kids[i] = roomyTx(t.Kids[i])
	}
	return t
}

func roomySched(s api.Sched) api.Sched {
	s.Nums, s.Ints, s.Kids = roomy(s.Nums, 7, 8), roomy(s.Ints, 7, 8), roomy(s.Kids, api.Sched{Op: 99})
	for i := range s.Kids {
		s.Kids[i] = roomySched(s.Kids[i])
	}
	return s
}

// opened is the list, with its spare room there for all to see.
func opened[T any](list []T) []T { return slices.Clone(list[:cap(list)]) }

func openedTree(n api.Node) api.Node {
	n.Args = opened(n.Args)
	for i := range n.Args {
		n.Args[i] = openedTree(n.Args[i])
	}
	return n
}

func openedTx(t api.Tx) api.Tx {
	t.Nums, t.Ints, t.Sched, t.Masks, t.Kids = opened(t.Nums), opened(t.Ints), openedSched(t.Sched), opened(t.Masks), opened(t.Kids)
	for i := range t.Masks {
		t.Masks[i] = opened(t.Masks[i])
	}
	for i := range t.Kids {
		t.Kids[i] = openedTx(t.Kids[i])
	}
	return t
}

func openedSched(s api.Sched) api.Sched {
	s.Nums, s.Ints, s.Kids = opened(s.Nums), opened(s.Ints), opened(s.Kids)
	for i := range s.Kids {
		s.Kids[i] = openedSched(s.Kids[i])
	}
	return s
}

// spoil overwrites all of a typed program, its spare room too.
func spoil(t *api.Tx) {
	for _, m := range t.Masks[:cap(t.Masks)] {
		fill(m, -9)
	}
	fill(t.Nums, 99)
	fill(t.Ints, -9)
	fill(t.Masks, []int{-9})
	for i := range t.Kids[:cap(t.Kids)] {
		spoil(&t.Kids[:cap(t.Kids)][i])
	}
	spoilSched(&t.Sched)
	*t = api.Tx{Op: -9}
}

func spoilSched(s *api.Sched) {
	fill(s.Nums, 99)
	fill(s.Ints, -9)
	for i := range s.Kids[:cap(s.Kids)] {
		spoilSched(&s.Kids[:cap(s.Kids)][i])
	}
	*s = api.Sched{Op: -9}
}

func fill[T any](list []T, value T) {
	list = list[:cap(list)]
	for i := range list {
		list[i] = value
	}
}

// programs gives trees and signatures, some with faults.
func programs(yield func(api.Node, []api.Param)) {
	g := &grower{Source: samples.Source(135)}
	for i := range 1500 {
		n := g.program()
		if i%4 == 0 {
			n = g.harmed(n)
		}
		yield(numbered(i, n), g.signature())
	}
	for _, c := range rowCases() {
		yield(read(c[0]), reals())
	}
	for _, c := range schedCases() {
		yield(read("scale_by_schedule("+c[0]+")"), reals())
	}
	yield(read(`let s = warmup(0.1, 2, linear(1, 2, 3)); let m = or("w", real()); let a = masked(m, adam(s)); partition(m, a, m, a, chain(a, a))`), reals())
}

// TestAnswersAreNew: rule 3, no list of an answer shares memory with another one, with the argument's or with another answer's.
func TestAnswersAreNew(t *testing.T) {
	programs(func(n api.Node, list []api.Param) {
		n = roomyTree(n)
		first, _, _ := Check(n, list)
		second, _, _ := Check(n, list)
		holdApart(t, slices.Concat(treeLists(n), txLists(first, "an answer"), txLists(second, "another answer"))...)
	})
	holdApart(t, listStretch(Names(), "an answer"), listStretch(Names(), "another answer"))
}

// TestArgumentsStay: rule 3, no argument is changed, neither is its spare room, and what stands there is not asked; also if the answer is.
func TestArgumentsStay(t *testing.T) {
	programs(func(n api.Node, list []api.Param) {
		n, list = roomyTree(n), roomy(list, api.Param{Name: "room", Kind: 2, Len: -1})
		before := fmt.Sprint(openedTree(n), opened(list))
		holdWords(t, n, list)
		got, _, _ := Check(n, list)
		x := roomyTx(got)
		typed := dump(openedTx(x))
		if e, want := Valid(x, list), toldValid(x, list); e != want {
			t.Errorf("Valid(%s) = %d, want %d", brief(dump(x)), e, want)
		}
		if dump(openedTx(x)) != typed {
			t.Errorf("%s was changed", brief(typed))
		}
		spoil(&got)
		if fmt.Sprint(openedTree(n), opened(list)) != before {
			t.Errorf("%s was changed", brief(before))
		}
		holdWords(t, n, list)
	})
}

// TestNothingIsKept: rules 3 and 4, a call answers the same again, whatever came ahead of it and was done with an answer.
func TestNothingIsKept(t *testing.T) {
	const program = `partition("w", adam(warmup(0.1, 2, 3)), chain(ema(0.5), scale_by_schedule(linear(1, 2, 3))))`
	first, _, _ := Check(read(program), wz())
	second, _, _ := Check(read(program), wz())
	want := dump(second)
	spoil(&first)
	if dump(second) != want {
		t.Error("one answer hangs on the other")
	}
	names := Names()
	fill(names, "spoilt")
	for range 3 {
		holdTyped(t, read(program), wz(), want)
		holdFault(t, read("chain(identity(), scale())"), wz(), errArity, 18)
		holdValid(t, second, wz(), api.OK)
		holdValid(t, second, wz()[:1], api.OK)
		holdValid(t, api.Tx{Op: 9}, wz(), errArg)
		if Names()[0] != "adaptive_grad_clip" {
			t.Error("Names hangs on what was done with its answer")
		}
	}
}

// TestSideBySide: rule 4, calls that go on at the same time answer as they do alone.
func TestSideBySide(t *testing.T) {
	n := read(`partition("w", adam(warmup(0.1, 2, 3)), chain(ema(0.5), scale_by_schedule(linear(1, 2, 3))))`)
	got, _, _ := Check(n, wz())
	want := dump(got)
	var all sync.WaitGroup
	for range 8 {
		all.Go(func() {
			for range 100 {
				holdTyped(t, n, wz(), want)
				holdValid(t, got, wz(), api.OK)
				holdFault(t, call("clip", wholeOf(1)), wz(), errComplex, 0)
				if len(Names()) != 57 {
					t.Error(Names())
				}
			}
		})
	}
	all.Wait()
}
