package mask

import (
	"cmp"
	"slices"
	"strings"
	"sync"
	"testing"
	"unsafe"

	"lathe/api"
	"lathe/samples"
)

// A stretch of memory.
type stretch struct {
	from, to uintptr
	what     string
}

func listStretch[T any](list []T, what string) stretch {
	var one T
	from := uintptr(unsafe.Pointer(unsafe.SliceData(list)))
	return stretch{from, from + uintptr(cap(list))*unsafe.Sizeof(one), what}
}

func stringStretch(s, what string) stretch {
	from := uintptr(unsafe.Pointer(unsafe.StringData(s)))
	return stretch{from, from + uintptr(len(s)), what}
}

// stretches are those of a tree's lists and texts, spare room too.
func stretches(n api.Node) []stretch {
	all := []stretch{listStretch(n.Args, "a list of arguments"), stringStretch(n.Name, "a Name"), stringStretch(n.Key, "a Key")}
	for _, a := range n.Args {
		all = append(all, stretches(a)...)
	}
	return all
}

// holdApart: no two stretches have a byte in common.
func holdApart(t *testing.T, all ...stretch) {
	t.Helper()
	list := slices.DeleteFunc(all, func(s stretch) bool { return s.from == s.to })
	slices.SortFunc(list, func(a, b stretch) int { return cmp.Compare(a.from, b.from) })
	for i := 1; i < len(list); i++ {
		if list[i].from < list[i-1].to {
			t.Errorf("%s and %s share memory", list[i-1].what, list[i].what)
			return
		}
	}
}

// roomy is the tree in memory of its own, texts too, with nodes in the spare room behind each list.
func roomy(n api.Node) api.Node {
	n.Name, n.Key = strings.Clone(n.Name), strings.Clone(n.Key)
	list := make([]api.Node, 0, len(n.Args)+2)
	for _, a := range n.Args {
		list = append(list, roomy(a))
	}
	n.Args = append(list, call("spare"), glob("room"))[:len(n.Args)]
	return n
}

// opened is the tree in which what stands in its spare room is there for all to see.
func opened(n api.Node) api.Node {
	n.Args = slices.Clone(n.Args[:cap(n.Args)])
	for i := range n.Args {
		n.Args[i] = opened(n.Args[i])
	}
	return n
}

// roomyList is the signature in memory of its own, with parameters in the spare room behind it.
func roomyList(list []api.Param) []api.Param {
	return append(slices.Clone(list), is("spare", kindReal), is("room", kindComplex))[:len(list)]
}

// cases gives signatures and trees, masks and others.
func cases(yield func(api.Node, []api.Param)) {
	g := &grower{samples.Source(113)}
	for i := range 2000 {
		list := g.signature()
		n := g.mask(list, 1+g.upTo(6))
		if i%3 == 0 {
			n = g.harmed(n)
		}
		yield(numbered(i, n), list)
	}
}

// TestAnswersAreNew: rule 3, no answer shares memory with an argument or with another answer.
func TestAnswersAreNew(t *testing.T) {
	cases(func(n api.Node, list []api.Param) {
		n, list = roomy(n), roomyList(list)
		first, _, _ := Set(n, list)
		second, _, _ := Set(n, list)
		holdApart(t, append(stretches(n), listStretch(list, "the signature"), listStretch(first, "an answer"), listStretch(second, "another answer"))...)
	})
}

// TestArgumentsStay: rule 3, no argument is changed, neither is its spare room, and what stands there is not asked.
func TestArgumentsStay(t *testing.T) {
	cases(func(n api.Node, list []api.Param) {
		n, list = roomy(n), roomyList(list)
		before, params := dump(opened(n)), dumpList(list[:cap(list)])
		holdTold(t, n, list)
		places, _, _ := Set(n, list)
		for i := range places[:cap(places)] {
			places[:cap(places)][i] = -1
		}
		if dump(opened(n)) != before || dumpList(list[:cap(list)]) != params {
			t.Errorf("%s or %s was changed", brief(before), brief(params))
		}
	})
	holdFault(t, placed(3, glob("spare")), roomyList(example()), api.ErrNone, 3)
}

// TestNothingIsKept: rules 3 and 4, a call answers the same again, whatever came ahead of it and was done with an answer.
func TestNothingIsKept(t *testing.T) {
	first, _, _ := Set(call("all"), example())
	second, _, _ := Set(call("all"), example())
	for i := range first[:cap(first)] {
		first[:cap(first)][i] = 7
	}
	if !slices.Equal(second, []int{0, 1, 2}) {
		t.Errorf("an answer has become %v", second)
	}
	list, n := example(), call("or", glob("w"), glob("z"))
	for range 3 {
		holdSet(t, n, list, 0, 2)
		holdFault(t, placed(4, glob("x")), list, api.ErrNone, 4)
		holdFault(t, placed(4, nest(maxDepth, n)), list, api.ErrDeep, 4)
		holdMatch(t, "w*", "w", true)
		holdMatch(t, "w*", "x", false)
		holdSet(t, call("not", n), list, 1)
	}
	list[0].Name, n.Args[1].Name = "x", "b"
	holdFault(t, n, list, api.ErrNone, 0)
	list[0].Name = "w"
	holdSet(t, n, list, 0, 1)
}

// TestSideBySide: rule 4, calls that go on at the same time answer as they do alone.
func TestSideBySide(t *testing.T) {
	n, list := call("or", call("and", glob("?"), call("complex")), call("not", glob("w"))), example()
	var all sync.WaitGroup
	for range 8 {
		all.Go(func() {
			for range 500 {
				holdSet(t, n, list, 1, 2)
				holdFault(t, placed(6, call("not")), list, api.ErrMask, 6)
				holdMatch(t, "*a*b", "xaab", true)
			}
		})
	}
	all.Wait()
}
