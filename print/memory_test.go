package print

import (
	"slices"
	"strings"
	"sync"
	"testing"
	"unsafe"

	"lathe/api"
)

// roomy is the tree in memory of its own, texts too, with nodes in the spare room behind each list.
func roomy(n api.Node) api.Node {
	n.Name, n.Key = strings.Clone(n.Name), strings.Clone(n.Key)
	list := make([]api.Node, 0, len(n.Args)+2)
	for _, a := range n.Args {
		list = append(list, roomy(a))
	}
	n.Args = append(list, quoted("spare"), word("room"))[:len(n.Args)]
	return n
}

// opened is the tree in which what stands in its spare room is there for all to see.
func opened(n api.Node) api.Node {
	n.Args = slices.Clone(n.Args[:cap(n.Args)])
	for i := range n.Args {
		n.Args[i] = opened(n.Args[i])
	}
	return n
}

// trees are some of all kinds and shapes.
func trees() []api.Node {
	all := []api.Node{example(), nest(maxDepth-1, word("x")), call("f", many(500, keyed("k", quoted("")))...)}
	for _, l := range leaves() {
		all = append(all, l.node, call("f", l.node), let("v", l.node, call("f", keyed("k", l.node))))
	}
	programs(func(g *grower, n api.Node) {
		if g.upTo(20) == 0 {
			all = append(all, n)
		}
	})
	return all
}

// TestArgumentsStay: rule 3, no argument is changed, neither is its spare room, and what stands there is not told.
func TestArgumentsStay(t *testing.T) {
	for _, n := range trees() {
		n = roomy(n)
		before := dump(opened(n))
		holdPrint(t, n, told(n))
		for _, width := range []int{0, 1, 30, maxInt} {
			Pretty(n, width)
		}
		if dump(opened(n)) != before {
			t.Errorf("%s was changed", brief(dump(n)))
		}
	}
	for name, c := range wrong() {
		n := roomy(c.node)
		before := dump(opened(n))
		Print(n)
		Pretty(n, 1)
		if dump(opened(n)) != before {
			t.Errorf("%s: the tree was changed", name)
		}
	}
}

// overlap tells whether two texts have a byte of memory in common.
func overlap(a, b string) bool {
	if a == "" || b == "" {
		return false
	}
	from, other := uintptr(unsafe.Pointer(unsafe.StringData(a))), uintptr(unsafe.Pointer(unsafe.StringData(b)))
	return from < other+uintptr(len(b)) && other < from+uintptr(len(a))
}

// texts are all Names and Keys of a tree.
func texts(n api.Node) []string {
	all := []string{n.Name, n.Key}
	for _, a := range n.Args {
		all = append(all, texts(a)...)
	}
	return all
}

// TestAnswersAreNew: rule 3, no answer shares memory with the tree's texts or with another answer.
func TestAnswersAreNew(t *testing.T) {
	for _, n := range trees() {
		n = roomy(n)
		answers := make([]string, 6)
		answers[0], _ = Print(n)
		answers[1], _ = Print(n)
		answers[2], _ = Pretty(n, 1)
		answers[3], _ = Pretty(n, 1)
		answers[4], _ = Pretty(n, maxInt)
		answers[5], _ = Pretty(n, maxInt)
		given := texts(n)
		for i, a := range answers {
			if slices.ContainsFunc(append(given, answers[:i]...), func(b string) bool { return overlap(a, b) }) {
				t.Errorf("answer %d of %s shares memory", i, brief(dump(n)))
			}
		}
	}
}

// TestNothingIsKept: rules 3 and 4, a call answers the same again, whatever came ahead of it and became of the tree.
func TestNothingIsKept(t *testing.T) {
	n := example()
	line, _ := Print(n)
	n.Args[0].Args[0] = quoted("w")
	n.Args[1].Name = "f"
	holdPrint(t, n, `chain(scale("w"), f())`)
	if line != "chain(scale(0.5), identity())" {
		t.Errorf("the answer has become %q", line)
	}
	for _, c := range wrong() {
		Print(c.node)
		Pretty(c.node, 3)
		Pretty(example(), 0)
		Print(sized(maxSource + 1))
		holdPrint(t, example(), "chain(scale(0.5), identity())")
		holdPretty(t, example(), 20, "chain(", "  scale(0.5),", "  identity()", ")")
		holdPretty(t, example(), 29, "chain(scale(0.5), identity())")
	}
}

// TestSideBySide: rule 4, calls that go on at the same time answer as they do alone.
func TestSideBySide(t *testing.T) {
	n := example()
	var all sync.WaitGroup
	for range 8 {
		all.Go(func() {
			for range 200 {
				holdPrint(t, n, "chain(scale(0.5), identity())")
				holdPretty(t, n, 20, "chain(", "  scale(0.5),", "  identity()", ")")
				holdRefused(t, call("F"), api.ErrTree)
			}
		})
	}
	all.Wait()
}
