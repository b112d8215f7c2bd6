package alias

import (
	"cmp"
	"slices"
	"strings"
	"sync"
	"testing"
	"unsafe"

	"lathe/api"
	"lathe/samples"
)

// A stretch of memory.
type stretch struct {
	from, to uintptr
	what     string
}

func listStretch[T any](list []T, what string) stretch {
	var one T
	from := uintptr(unsafe.Pointer(unsafe.SliceData(list)))
	return stretch{from, from + uintptr(cap(list))*unsafe.Sizeof(one), what}
}

func stringStretch(s, what string) stretch {
	from := uintptr(unsafe.Pointer(unsafe.StringData(s)))
	return stretch{from, from + uintptr(len(s)), what}
}

// listsOf are the stretches of a tree's lists, spare room too.
func listsOf(n api.Node, whose string) []stretch {
	all := []stretch{listStretch(n.Args, "a list of "+whose)}
	for _, a := range n.Args {
		all = append(all, listsOf(a, whose)...)
	}
	return all
}

// textsOf are the stretches of a tree's texts.
func textsOf(n api.Node, whose string) []stretch {
	all := []stretch{stringStretch(n.Name, "a Name of "+whose), stringStretch(n.Key, "a Key of "+whose)}
	for _, a := range n.Args {
		all = append(all, textsOf(a, whose)...)
	}
	return all
}

// holdApart: no two stretches have a byte in common.
func holdApart(t *testing.T, all ...stretch) {
	t.Helper()
	list := slices.DeleteFunc(all, func(s stretch) bool { return s.from == s.to })
	slices.SortFunc(list, func(a, b stretch) int { return cmp.Compare(a.from, b.from) })
	for i := 1; i < len(list); i++ {
		if list[i].from < list[i-1].to {
			t.Errorf("%s and %s share memory", list[i-1].what, list[i].what)
			return
		}
	}
}

// roomy is the tree in memory of its own, texts too, with nodes in the spare room behind each list.
func roomy(n api.Node) api.Node {
	n.Name, n.Key = strings.Clone(n.Name), strings.Clone(n.Key)
	list := make([]api.Node, 0, len(n.Args)+2)
	for _, a := range n.Args {
		list = append(list, roomy(a))
	}
	n.Args = append(list, call("adam"), text("room"))[:len(n.Args)]
	return n
}

// opened is the tree in which what stands in its spare room is there for all to see.
func opened(n api.Node) api.Node {
	n.Args = slices.Clone(n.Args[:cap(n.Args)])
	for i := range n.Args {
		n.Args[i] = opened(n.Args[i])
	}
	return n
}

// spoil overwrites all of a tree, its spare room too.
func spoil(n *api.Node) {
	list := n.Args[:cap(n.Args)]
	for i := range list {
		spoil(&list[i])
	}
	*n = api.Node{Kind: 99, Name: "spoilt", Key: "spoilt", At: -99}
}

// cases gives trees with and without lets and aliases, some with faults.
func cases(yield func(api.Node)) {
	g := &grower{Source: samples.Source(122)}
	for i := range 1500 {
		n := g.program()
		if i%4 == 0 {
			n = g.harmed(n)
		}
		yield(numbered(i, n))
	}
	yield(lets("a", call("sgd", call("g", text("w"), keyed("k", whole(1)))), lets("b", call("h", named("a"), named("a")), call("f", named("a"), named("b"), named("a")))))
	for name := range lines() {
		yield(call(name, call("g", text("w"), keyed("k", whole(1)))))
	}
}

// TestAnswersAreNew: rule 3, no list of an answer shares memory with another one, with the argument's or with another answer's; no text of
// an answer shares any with the argument's.
func TestAnswersAreNew(t *testing.T) {
	cases(func(n api.Node) {
		n = roomy(n)
		first, _, _ := Expand(n)
		second, _, _ := Expand(n)
		holdApart(t, slices.Concat(listsOf(n, "the argument"), listsOf(first, "an answer"), listsOf(second, "another answer"))...)
		theirs := textsOf(n, "the argument")
		for _, one := range textsOf(first, "an answer") {
			for _, other := range theirs {
				if one.from < other.to && other.from < one.to {
					t.Errorf("%s and %s share memory", one.what, other.what)
					return
				}
			}
		}
	})
}

// TestArgumentsStay: rule 3, no argument is changed, neither is its spare room, and what stands there is not asked; also if the answer is.
func TestArgumentsStay(t *testing.T) {
	cases(func(n api.Node) {
		n = roomy(n)
		before := dump(opened(n))
		holdTold(t, n)
		got, _, _ := Expand(n)
		spoil(&got)
		if dump(opened(n)) != before {
			t.Errorf("%s was changed", brief(before))
		}
		holdTold(t, n)
	})
}

// TestNothingIsKept: rules 3 and 4, a call answers the same again, whatever came ahead of it and was done with an answer or the argument.
func TestNothingIsKept(t *testing.T) {
	n := read("let a = lion(0.1); chain(a, a, adam(f(a)))")
	first, _, _ := Expand(n)
	second, _, _ := Expand(n)
	want := dump(second)
	spoil(&first)
	if dump(second) != want {
		t.Error("one answer hangs on the other")
	}
	spoil(&n)
	if dump(second) != want {
		t.Error("an answer hangs on the argument")
	}
	for range 3 {
		third, _, _ := Expand(read("let a = lion(0.1); chain(a, a, adam(f(a)))"))
		if dump(third) != want {
			t.Error("a call hangs on those ahead of it")
		}
		spoil(&third)
		holdTextFault(t, "let a = lion(); f(a)", errArity, 18)
		holdTextFault(t, "adam(0.1, lr=2)", errKey, 13)
		holdText(t, "sgd(0.1)", "chain(trace(0.0, false), scale(-0.1))")
	}
}

// TestSideBySide: rule 4, calls that go on at the same time answer as they do alone.
func TestSideBySide(t *testing.T) {
	n := read("let a = lion(0.1); chain(a, a, adam(f(a)))")
	got, _, _ := Expand(n)
	var all sync.WaitGroup
	for range 8 {
		all.Go(func() {
			for range 200 {
				holdTree(t, n, got)
				holdTextFault(t, "adam(0.1, lr=2)", errKey, 13)
				if len(Names()) != 17 {
					t.Error(Names())
				}
			}
		})
	}
	all.Wait()
}
