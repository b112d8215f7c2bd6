package tree

import (
	"regexp"
	"strings"
	"testing"

	"lathe/api"
)

// TestFirstFault: T1, of several faults that of the first node, however deep the others are.
func TestFirstFault(t *testing.T) {
	long := strings.Repeat("n", maxName+1)
	faults := []struct {
		n api.Node
		e api.Errno
	}{
		{word(long), api.ErrLong}, {call(long), api.ErrLong}, {keyed(long, whole(1)), api.ErrLong}, {number(0x7fc00000), api.ErrTree},
		{word("X"), api.ErrTree}, {whole(maxCount + 1), api.ErrTree}, {text("\""), api.ErrTree}, {api.Node{Kind: 7}, api.ErrTree}, {text(long), api.ErrLong},
	}
	f := call("f", whole(1))
	for _, a := range faults {
		for _, b := range faults {
			holdFault(t, call("f", a.n, b.n), a.e)
			holdFault(t, call("f", f, a.n, f, b.n), a.e)
			holdFault(t, call("f", call("g", call("h", a.n)), b.n), a.e)
			holdFault(t, call("f", a.n, call("g", call("h", b.n))), a.e)
			holdFault(t, call("f", call("g", f, a.n), call("g", b.n)), a.e)
			holdFault(t, let("a", call("g", a.n), call("f", b.n)), a.e)
			holdFault(t, let("a", whole(1), let("b", call("g", a.n), call("f", b.n))), a.e)
			around := a.n
			around.Args = []api.Node{b.n}
			holdFault(t, call("f", around), a.e)
		}
	}
	bad := call("F", word(long))
	holdFault(t, bad, api.ErrTree)
	holdFault(t, call(long, word("X")), api.ErrLong)
	holdFault(t, keyed("k", call("f", word(long))), api.ErrTree)
}

// TestDepths: T1, MaxDepth and one more, of calls and of lets, and where the deepest stands.
func TestDepths(t *testing.T) {
	for _, inner := range samplesOf() {
		holdFault(t, nest(maxDepth-1, inner), 0)
		holdFault(t, nest(maxDepth, inner), api.ErrDeep)
		holdFault(t, nest(2*maxDepth, inner), api.ErrDeep)
	}
	deep, deeper := nest(maxDepth-2, whole(1)), nest(maxDepth-1, whole(1))
	holdFault(t, call("f", deep, whole(1), deep), 0)
	holdFault(t, call("f", whole(1), whole(2), deeper), api.ErrDeep)
	holdFault(t, call("f", deeper, whole(1)), api.ErrDeep)
	holdFault(t, call("f", deep, call("g"), deep, keyed("k", deeper), deep), api.ErrDeep)
	holdFault(t, let("a", deep, deep), 0)
	holdFault(t, let("a", deeper, call("f")), api.ErrDeep)
	holdFault(t, let("a", whole(1), deeper), api.ErrDeep)
	holdFault(t, lets(maxDepth-1), 0)
	holdFault(t, lets(maxDepth), api.ErrDeep)
	holdFault(t, nest(nested-1, whole(1)), api.ErrDeep)
}

// lets is a tree of so many lets and a call.
func lets(count int) api.Node {
	n := call("f")
	for range count {
		n = let("a", whole(1), n)
	}
	return n
}

// TestCounts: T1, MaxNodes and one more.
func TestCounts(t *testing.T) {
	for _, a := range samplesOf() {
		holdFault(t, call("f", many(maxNodes-1, a)...), 0)
		holdFault(t, call("f", many(maxNodes, a)...), api.ErrMany)
		holdFault(t, call("f", many(3*maxNodes, a)...), api.ErrMany)
	}
	pairs := many(maxNodes/4-1, call("g", whole(1), call("h", word("x")))) // four nodes each
	holdFault(t, call("f", append(pairs, many(3, whole(1))...)...), 0)
	holdFault(t, call("f", append(pairs, many(4, whole(1))...)...), api.ErrMany)
	holdFault(t, let("a", whole(1), call("f", many(maxNodes-3, whole(1))...)), 0)
	holdFault(t, let("a", whole(1), call("f", many(maxNodes-2, whole(1))...)), api.ErrMany)
	holdFault(t, let("a", call("f", many(maxNodes-3, whole(1))...), call("g")), 0)
	holdFault(t, let("a", call("f", many(maxNodes-2, whole(1))...), call("g")), api.ErrMany)
}

// TestGreatAndWrong: T1, ErrDeep ahead of ErrMany ahead of what a node is, wherever they stand.
func TestGreatAndWrong(t *testing.T) {
	long := strings.Repeat("n", maxName+1)
	deep, wide := nest(maxDepth-1, whole(1)), many(maxNodes, whole(1))
	deepest := nest(maxDepth-2, call("f", wide...))
	holdFault(t, call("f", append(wide, deep)...), api.ErrDeep)
	holdFault(t, call("f", append([]api.Node{deep}, wide...)...), api.ErrDeep)
	holdFault(t, call("f", deepest, deep), api.ErrDeep)
	holdFault(t, deepest, api.ErrMany)
	holdFault(t, call("f", deepest), api.ErrDeep)
	for _, wrong := range []api.Node{word(long), word("X"), {Kind: 9}, {Kind: 6}, keyed(long, whole(1))} {
		holdFault(t, call("f", wrong, deep), api.ErrDeep)
		holdFault(t, call("f", deep, wrong), api.ErrDeep)
		holdFault(t, call("f", append([]api.Node{wrong}, wide...)...), api.ErrMany)
		holdFault(t, call("f", append(wide, wrong)...), api.ErrMany)
		holdFault(t, call("f", append([]api.Node{wrong, deep}, wide...)...), api.ErrDeep)
		holdFault(t, call("f", append(many(maxNodes-2, whole(1)), wrong)...), faultOf(wrong))
		holdFault(t, nest(maxDepth, wrong), api.ErrDeep)
	}
	for _, root := range []api.Node{call("F"), call(long), keyed("k", call("f")), {Kind: 0}, whole(1), {Kind: 6}} {
		root.Args = wide
		holdFault(t, root, api.ErrMany)
		root.Args = []api.Node{deep}
		holdFault(t, root, api.ErrDeep)
	}
}

// faultOf is the error of a node that may not be.
func faultOf(n api.Node) api.Errno {
	if len(n.Name) > maxName || len(n.Key) > maxName {
		return api.ErrLong
	}
	return api.ErrTree
}

// The chapter's words as patterns.
var (
	aName   = regexp.MustCompile(`^[a-z_][a-z_0-9]*$`)
	aText   = regexp.MustCompile(`^[ !#-~]*$`)
	nothing = regexp.MustCompile(`^$`)
	anyName = map[int]*regexp.Regexp{1: aName, 2: nothing, 3: nothing, 4: aName, 5: aText, 6: aName}
)

// checked is what Check must tell, by the chapter's words over the list of all nodes.
func checked(n api.Node) api.Errno {
	list := flatten(n)
	for _, f := range list {
		if f.depth > maxDepth {
			return api.ErrDeep
		}
	}
	if len(list) > maxNodes {
		return api.ErrMany
	}
	for i, f := range list {
		if len(f.node.Name) > maxName || len(f.node.Key) > maxName {
			return api.ErrLong
		}
		if !allowed(f.node) || i == 0 && f.node.Key != "" {
			return api.ErrTree
		}
		if f.node.Kind == 6 && i > 0 && (list[f.above].node.Kind != 6 || f.path[len(f.path)-1] != 1) {
			return api.ErrTree
		}
	}
	return api.OK
}

// allowed tells of a node by itself and the kinds and keys of its arguments.
func allowed(n api.Node) bool {
	form := anyName[n.Kind]
	if form == nil || !form.MatchString(n.Name) || n.Key != "" && !aName.MatchString(n.Key) {
		return false
	}
	if n.Num != 0 && (n.Kind != 2 || n.Num>>23&255 == 255) || n.Int != 0 && (n.Kind != 3 || n.Int > maxCount || -n.Int > maxCount) {
		return false
	}
	switch n.Kind {
	case 1:
		return true
	case 6:
		if len(n.Args) != 2 || n.Name == "true" || n.Name == "false" {
			return false
		}
		value, rest := n.Args[0], n.Args[1]
		return value.Key+rest.Key == "" && value.Kind != 6 && (rest.Kind == 6 || rest.Kind == 1)
	}
	return len(n.Args) == 0
}

// TestCheckByTheWords: T1, trees of all shapes.
func TestCheckByTheWords(t *testing.T) {
	told := map[api.Errno]int{}
	trees(t, func(n api.Node) {
		want := checked(n)
		told[want]++
		holdFault(t, n, want)
	})
	if told[0] < 3000 || told[70] < 1000 || told[2] < 300 || told[81] == 0 || told[82] == 0 {
		t.Errorf("the trees do not try enough: %v", told)
	}
}

// TestCheckAndPlaces: T1, At is not looked at.
func TestCheckAndPlaces(t *testing.T) {
	for _, at := range []int{-1, 1, 65536, -1 << 63, 1<<63 - 1} {
		holdFault(t, placed(at, call("f", placed(at, whole(1)), keyed("k", placed(-at, text("w"))))), 0)
		holdFault(t, placed(at, let("a", placed(at, whole(1)), placed(at, call("f")))), 0)
		holdFault(t, call("f", placed(at, word("X"))), api.ErrTree)
	}
}
