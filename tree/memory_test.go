package tree

import (
	"cmp"
	"slices"
	"strings"
	"testing"
	"unsafe"

	"lathe/api"
)

// A stretch of memory.
type stretch struct {
	from, to uintptr
	what     string
}

func stringStretch(s, what string) stretch {
	from := uintptr(unsafe.Pointer(unsafe.StringData(s)))
	return stretch{from, from + uintptr(len(s)), what}
}

func listStretch[T any](list []T, what string) stretch {
	var one T
	from := uintptr(unsafe.Pointer(unsafe.SliceData(list)))
	return stretch{from, from + uintptr(cap(list))*unsafe.Sizeof(one), what}
}

// listsOf are the stretches of all lists of a tree, spare room too.
func listsOf(n api.Node, what string) []stretch {
	all := []stretch{listStretch(n.Args, what+"'s list of arguments")}
	for _, a := range n.Args {
		all = append(all, listsOf(a, what)...)
	}
	return all
}

// textsOf are the stretches of all texts of a tree.
func textsOf(n api.Node, what string) []stretch {
	var all []stretch
	for _, f := range flatten(n) {
		all = append(all, stringStretch(f.node.Name, what+"'s Name "+f.node.Name), stringStretch(f.node.Key, what+"'s Key "+f.node.Key))
	}
	return all
}

// holdApart: no two stretches have a byte in common.
func holdApart(t *testing.T, all ...[]stretch) {
	t.Helper()
	list := slices.DeleteFunc(slices.Concat(all...), func(s stretch) bool { return s.from == s.to })
	slices.SortFunc(list, func(a, b stretch) int { return cmp.Compare(a.from, b.from) })
	for i := 1; i < len(list); i++ {
		if list[i].from < list[i-1].to {
			t.Errorf("%s and %s share memory", list[i-1].what, list[i].what)
			return
		}
	}
}

// roomy is the tree in memory of its own, texts too, with nodes in the spare room behind each list.
func roomy(n api.Node) api.Node {
	n.Name, n.Key = strings.Clone(n.Name), strings.Clone(n.Key)
	list := make([]api.Node, 0, len(n.Args)+2)
	for _, a := range n.Args {
		list = append(list, roomy(a))
	}
	n.Args = append(list, text("spare"), word("room"))[:len(n.Args)]
	return n
}

// opened is the tree in which what stands in its spare room is there for all to see.
func opened(n api.Node) api.Node {
	n.Args = slices.Clone(n.Args[:cap(n.Args)])
	for i := range n.Args {
		n.Args[i] = opened(n.Args[i])
	}
	return n
}

// TestAnswersAreNew: rule 3, no answer shares memory with the argument or another answer, nor do two lists of one.
func TestAnswersAreNew(t *testing.T) {
	trees(t, func(n api.Node) {
		n = roomy(n)
		first, second := Strip(n), Strip(n)
		found, _ := Find(n, nil)
		again, _ := Find(n, nil)
		part, _ := Find(n, []int{0})
		holdApart(t, listsOf(n, "the argument"), listsOf(first, "Strip"), listsOf(second, "another Strip"), listsOf(found, "Find"), listsOf(again, "another Find"), listsOf(part, "a part"))
		holdApart(t, textsOf(n, "the argument"), textsOf(first, "Strip"), textsOf(second, "another Strip"), textsOf(found, "Find"), textsOf(again, "another Find"), textsOf(part, "a part"))
		holdNamesApart(t, n)
	})
}

// holdNamesApart: what Names answers shares nothing either.
func holdNamesApart(t *testing.T, n api.Node) {
	t.Helper()
	names, others := Names(n), Names(n)
	holdApart(t, []stretch{listStretch(names, "Names"), listStretch(others, "other Names")}, listsOf(n, "the argument"))
	texts := textsOf(n, "the argument")
	for _, name := range slices.Concat(names, others) {
		texts = append(texts, stringStretch(name, "the name "+name))
	}
	holdApart(t, texts)
}

// TestArgumentsStay: rule 3, no argument is changed, neither are its spare room and a path.
func TestArgumentsStay(t *testing.T) {
	trees(t, func(n api.Node) {
		n = roomy(n)
		other := roomy(placed(3, n))
		before := dumpWithPlaces(opened(n))
		path := make([]int, 4, 8)
		stripped := Strip(n)
		found, _ := Find(n, path[:1])
		root, _ := Find(n, nil)
		Check(n)
		Equal(n, other)
		Count(n)
		Depth(n)
		Names(n)
		for _, answer := range []*api.Node{&stripped, &found, &root} {
			overwrite(answer)
		}
		if dumpWithPlaces(opened(n)) != before || !slices.Equal(path[:8], make([]int, 8)) {
			t.Errorf("%s was changed", brief(n))
		}
	})
}

// overwrite changes all that a caller can change of a tree.
func overwrite(n *api.Node) {
	list := n.Args[:cap(n.Args)]
	for i := range list {
		overwrite(&list[i])
		list[i] = word("changed")
	}
	*n = word("changed")
}

// TestNothingIsKept: rules 3 and 4, what is changed behind a call changes no answer, and a call answers the same again.
func TestNothingIsKept(t *testing.T) {
	n := call("f", whole(1), keyed("k", call("g", text("w"))))
	stripped, names := Strip(n), Names(n)
	found, _ := Find(n, []int{1})
	want := dump(n)
	overwrite(&n.Args[0])
	overwrite(&n.Args[1])
	if dump(stripped) != want || !slices.Equal(names, []string{"f", "g"}) || dump(found) != dump(keyed("k", call("g", text("w")))) {
		t.Errorf("answers have changed: %s, %q, %s", brief(stripped), names, brief(found))
	}
	for range 3 {
		holdFault(t, call("F"), api.ErrTree)
		holdFault(t, nest(maxDepth, whole(1)), api.ErrDeep)
		holdFault(t, call("f"), api.OK)
		holdSizes(t, n, 3, 2)
	}
}
