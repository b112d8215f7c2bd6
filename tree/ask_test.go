package tree

import (
	"math"
	"slices"
	"strings"
	"testing"

	"lathe/api"
	"lathe/samples"
)

// holdEqual: Equal tells that, both ways round.
func holdEqual(t *testing.T, a, b api.Node, want bool) {
	t.Helper()
	if Equal(a, b) != want || Equal(b, a) != want {
		t.Errorf("Equal(%s, %s) = %t, %t, want %t", brief(a), brief(b), Equal(a, b), Equal(b, a), want)
	}
}

// TestEqualParts: T2, nodes that differ in one part alone, by themselves and within others.
func TestEqualParts(t *testing.T) {
	base := api.Node{Kind: 1, Name: "a", Num: 0x3f800000, Int: 5, Key: "k", Args: []api.Node{whole(1), call("g", text("w"))}, At: 3}
	changes := []func(*api.Node){
		func(n *api.Node) { n.Kind = 2 },
		func(n *api.Node) { n.Kind = -1 },
		func(n *api.Node) { n.Name = "b" },
		func(n *api.Node) { n.Name = "" },
		func(n *api.Node) { n.Name = "a\x00" },
		func(n *api.Node) { n.Name = "A" },
		func(n *api.Node) { n.Num = 0x3f800001 },
		func(n *api.Node) { n.Num = 0xbf800000 },
		func(n *api.Node) { n.Int = -5 },
		func(n *api.Node) { n.Int = 5 + 1<<32 },
		func(n *api.Node) { n.Key = "" },
		func(n *api.Node) { n.Key = "a" },
		func(n *api.Node) { n.Key = "kk" },
		func(n *api.Node) { n.Args = nil },
		func(n *api.Node) { n.Args = n.Args[:1] },
		func(n *api.Node) { n.Args = append(n.Args, whole(1)) },
		func(n *api.Node) { n.Args = []api.Node{n.Args[1], n.Args[0]} },
		func(n *api.Node) { n.Args[0].Int = 2 },
		func(n *api.Node) { n.Args[1].Args[0].Name = "x" },
		func(n *api.Node) { n.Args[1].Args = nil },
		func(n *api.Node) { n.Args[1].Args[0].Key = "q" },
		func(n *api.Node) { n.Name, n.Key = n.Key, n.Name },
	}
	holdEqual(t, base, fresh(base), true)
	for i, change := range changes {
		other := fresh(base)
		change(&other)
		before := t.Failed()
		holdEqual(t, base, other, false)
		holdEqual(t, call("f", base), call("f", other), false)
		holdEqual(t, call("f", whole(1), base), call("f", whole(1), other), false)
		holdEqual(t, call("f", base, whole(1)), call("f", other, whole(1)), false)
		holdEqual(t, nest(20, base), nest(20, other), false)
		holdEqual(t, other, fresh(other), true)
		if t.Failed() && !before {
			t.Fatal("change", i)
		}
	}
}

// TestEqualPlaces: T2, At is not looked at.
func TestEqualPlaces(t *testing.T) {
	a := call("f", placed(4, whole(1)), placed(9, call("g", placed(-2, text("w")))))
	for _, at := range []int{0, 1, -1, math.MaxInt, math.MinInt} {
		b := call("f", placed(at, whole(1)), placed(at, call("g", placed(at+1, text("w")))))
		holdEqual(t, a, placed(at, b), true)
	}
	holdEqual(t, api.Node{}, api.Node{At: 1}, true)
}

// TestEqualBits: T2, Num bit by bit: NaNs, and the two noughts.
func TestEqualBits(t *testing.T) {
	all := append(samples.Edges(), samples.NaNs()...)
	for _, a := range all {
		for _, b := range all {
			holdEqual(t, number(a), number(b), a == b)
			holdEqual(t, call("f", number(a)), call("f", number(b)), a == b)
		}
	}
	holdEqual(t, number(0x7fc00000), number(0x7fc00000), true)
	holdEqual(t, number(0x7f800001), number(0x7fc00000), false)
	holdEqual(t, number(0), number(0x80000000), false)
}

// TestEqualLists: T2, nil and the empty list are the same, and room behind a list is not looked at.
func TestEqualLists(t *testing.T) {
	a, b, c := call("f"), call("f"), call("f")
	a.Args, b.Args, c.Args = nil, []api.Node{}, many(3, whole(1))[:0]
	holdEqual(t, a, b, true)
	holdEqual(t, a, c, true)
	holdEqual(t, call("f", a), call("f", b), true)
	holdEqual(t, call("f", a), call("f"), false)
	holdEqual(t, api.Node{Args: many(3, whole(1))[:2]}, api.Node{Args: many(2, whole(1))}, true)
}

// TestEqualByTexts: T2, trees of all shapes, against texts that tell all parts.
func TestEqualByTexts(t *testing.T) {
	s := samples.Source(77)
	alike := 0
	for range 20000 {
		if t.Failed() {
			return
		}
		a := pick(&s, wild(&s, 3), tame(&s, 3), bound(&s, 1, 2))
		b := pick(&s, wild(&s, 2), spoilt(&s, a), tame(&s, 2), placed(1, fresh(a)))
		same := dump(a) == dump(b)
		if same {
			alike++
		}
		holdEqual(t, a, b, same)
		holdEqual(t, a, a, true)
	}
	if alike < 2000 || alike > 15000 {
		t.Error(alike, "pairs are alike")
	}
}

// holdSizes: Count and Depth tell these.
func holdSizes(t *testing.T, n api.Node, count, depth int) {
	t.Helper()
	if Count(n) != count || Depth(n) != depth {
		t.Errorf("of %s Count %d, Depth %d, want %d, %d", brief(n), Count(n), Depth(n), count, depth)
	}
}

// TestSizes: T2, of one node, of long ones, of deep ones, also beyond the limits.
func TestSizes(t *testing.T) {
	holdSizes(t, api.Node{}, 1, 1)
	holdSizes(t, api.Node{Kind: 99, Args: []api.Node{}}, 1, 1)
	for _, n := range samplesOf() {
		holdSizes(t, n, 1, 1)
	}
	holdSizes(t, let("a", whole(1), call("f", whole(1))), 4, 3)
	holdSizes(t, let("a", call("f", whole(1)), call("f")), 4, 3)
	holdSizes(t, call("f", whole(1), call("g", whole(1), call("h"), whole(1)), whole(2)), 7, 3)
	holdSizes(t, call("f", nest(5, whole(1)), nest(9, whole(1)), nest(2, whole(1))), 20, 11)
	for _, size := range []int{1, 2, maxDepth - 1, maxDepth, maxDepth + 1, maxNodes - 1, maxNodes, maxNodes + 1, nested} {
		holdSizes(t, nest(size-1, whole(1)), size, size)
		holdSizes(t, api.Node{Args: make([]api.Node, size)}, size+1, 2)
	}
	holdSizes(t, api.Node{Args: make([]api.Node, 300000)}, 300001, 2)
	holdSizes(t, call("f", many(1000, nest(99, whole(1)))...), 100001, 101)
}

// TestLaws: T3, and Count and Depth by the list of all nodes.
func TestLaws(t *testing.T) {
	trees(t, func(n api.Node) {
		list := flatten(n)
		depth, count := 0, 1
		for _, f := range list {
			depth = max(depth, f.depth)
		}
		for _, a := range n.Args {
			count += Count(a)
		}
		holdSizes(t, n, len(list), depth)
		if Count(n) != count {
			t.Errorf("Count(%s) = %d, the arguments' and 1: %d", brief(n), Count(n), count)
		}
		if len(Names(n)) > Count(n) {
			t.Errorf("Names(%s) has %d entries", brief(n), len(Names(n)))
		}
		if !Equal(n, Strip(n)) {
			t.Errorf("Equal(%s, Strip of it) = false", brief(n))
		}
		if whole, ok := Find(n, nil); !ok || !Equal(n, whole) || dumpWithPlaces(whole) != dumpWithPlaces(n) {
			t.Errorf("Find(%s, []) = %s, %t", brief(n), brief(whole), ok)
		}
	})
}

// holdStripped: Strip tells the tree with all At 0, and no other part changed.
func holdStripped(t *testing.T, n api.Node) {
	t.Helper()
	stripped := Strip(n)
	if dump(stripped) != dump(n) {
		t.Errorf("Strip(%s) = %s", brief(n), brief(stripped))
	}
	for _, f := range flatten(stripped) {
		if f.node.At != 0 {
			t.Errorf("Strip(%s) leaves %d", brief(n), f.node.At)
		}
	}
}

// TestStrip: T2, trees of all shapes; the bits of a NaN stay as they are.
func TestStrip(t *testing.T) {
	trees(t, func(n api.Node) { holdStripped(t, n) })
	for _, at := range []int{1, -1, math.MaxInt, math.MinInt} {
		holdStripped(t, placed(at, whole(1)))
		holdStripped(t, placed(at, call("f", placed(at, whole(at)), placed(-at, call("g", placed(at, keyed("k", number(0x7f800001))))))))
		holdStripped(t, call("f", many(5000, placed(at, api.Node{Kind: 88, Name: "\x00"}))...))
	}
	for _, a := range samples.NaNs() {
		if n := Strip(placed(4, number(a))); n.Num != a || n.At != 0 {
			t.Errorf("Strip of the number %08x: %08x at %d", a, n.Num, n.At)
		}
	}
	deep := placed(1, whole(1))
	for range 2000 {
		deep = placed(2, call("f", deep))
	}
	holdStripped(t, deep)
}

// TestNames: T2, of calls alone, in order, each as often as it stands.
func TestNames(t *testing.T) {
	for _, c := range []struct {
		n    api.Node
		want string
	}{
		{api.Node{}, ""},
		{whole(1), ""}, {word("a"), ""}, {text("b"), ""}, {number(1), ""},
		{call("a"), "a"},
		{call("a", word("b"), text("c"), keyed("d", whole(1))), "a"},
		{call("a", call("b", call("c")), call("d", call("e"), call("f"))), "a b c d e f"},
		{call("a", call("a"), call("b"), call("a", call("a"))), "a a b a a"},
		{let("x", call("a", call("b")), let("y", word("x"), call("c", word("y"), call("d")))), "a b c d"},
		{let("x", whole(1), call("Scale")), "Scale"},
		{api.Node{Kind: 9, Name: "x", Args: []api.Node{call("b"), {Kind: 3, Name: "y", Args: []api.Node{call("c")}}}}, "b c"},
	} {
		if names := Names(c.n); strings.Join(names, " ") != c.want || len(names) != len(strings.Fields(c.want)) {
			t.Errorf("Names(%s) = %q, want %s", brief(c.n), names, c.want)
		}
	}
	if names := Names(call("", call("\xff"), call(""), call(strings.Repeat("n", 1000)))); !slices.Equal(names, []string{"", "\xff", "", strings.Repeat("n", 1000)}) {
		t.Errorf("names of any bytes: %q", names)
	}
	trees(t, func(n api.Node) {
		var want []string
		for _, f := range flatten(n) {
			if f.node.Kind == 1 {
				want = append(want, f.node.Name)
			}
		}
		if names := Names(n); !slices.Equal(names, want) {
			t.Errorf("Names(%s) has %d entries, want %d", brief(n), len(names), len(want))
		}
	})
}

// holdFound: Find tells that node, its place and all.
func holdFound(t *testing.T, n api.Node, path []int, want api.Node) {
	t.Helper()
	if found, ok := Find(n, path); !ok || dumpWithPlaces(found) != dumpWithPlaces(want) {
		t.Errorf("Find(%s, %v) = %s, %t, want %s", brief(n), path[:min(len(path), 20)], brief(found), ok, brief(want))
	}
}

// holdNone: Find tells that there is none.
func holdNone(t *testing.T, n api.Node, path ...int) {
	t.Helper()
	if found, ok := Find(n, path); ok || dumpWithPlaces(found) != dumpWithPlaces(api.Node{}) || found.Args != nil {
		t.Errorf("Find(%s, %v) = %s, %t", brief(n), path[:min(len(path), 20)], brief(found), ok)
	}
}

// TestFind: T2, each path that leads to a node, and paths beside it.
func TestFind(t *testing.T) {
	trees(t, func(n api.Node) {
		for i, f := range flatten(n) {
			if i > 100 || t.Failed() {
				return
			}
			holdFound(t, n, f.path, f.node)
			beside := func(last ...int) []int { return append(slices.Clone(f.path), last...) }
			for _, last := range []int{-1, len(f.node.Args), len(f.node.Args) + 1, math.MaxInt, math.MinInt} {
				holdNone(t, n, beside(last)...)
				holdNone(t, n, beside(last, 0)...)
			}
		}
	})
}

// TestFindNone: T2, paths that are negative, too great, too long.
func TestFindNone(t *testing.T) {
	n := example()
	holdFound(t, n, nil, n)
	holdFound(t, n, []int{}, n)
	holdFound(t, n, []int{1}, n.Args[1])
	for _, path := range [][]int{{2}, {-1}, {3}, {0, 1}, {0, -1}, {1, 0}, {0, 0, 0}, {0, 0, -1}, {1, -1}, {-1, 0}, {2, 0}, {0, 0, 0, 0, 0, 0}, {1 << 32}, {0, 1 << 32}, {math.MinInt}} {
		holdNone(t, n, path...)
	}
	holdNone(t, n, make([]int, 100000)...)
	for _, leaf := range append(samplesOf(), api.Node{}) {
		holdFound(t, leaf, nil, leaf)
		holdNone(t, leaf, 0)
		holdNone(t, leaf, -1)
		holdNone(t, leaf, 1)
	}
	roomy := call("f", many(4, whole(1))...)
	roomy.Args = roomy.Args[:2]
	holdNone(t, roomy, 2)
	holdFound(t, call("f", many(5000, placed(2, whole(7)))...), []int{4999}, placed(2, whole(7)))
	holdNone(t, call("f", many(5000, whole(7))...), 5000)
	for _, a := range samples.NaNs() {
		holdFound(t, call("f", number(a)), []int{0}, number(a))
	}
}

// TestAsDeepAsPromised: P1, every call of a tree with as many parts in one another as are promised.
func TestAsDeepAsPromised(t *testing.T) {
	inner := placed(5, keyed("k", text("w")))
	n := placed(9, nest(nested-1, inner))
	holdSizes(t, n, nested, nested)
	holdFault(t, n, api.ErrDeep)
	stripped := Strip(n)
	holdSizes(t, stripped, nested, nested)
	holdEqual(t, n, stripped, true)
	holdEqual(t, n, nest(nested-1, text("w")), false)
	if names := Names(n); len(names) != nested-1 || names[nested-2] != "f" {
		t.Errorf("Names has %d entries", len(names))
	}
	path := make([]int, nested-1)
	holdFound(t, n, path, inner)
	if found, _ := Find(stripped, path); found.At != 0 || stripped.At != 0 || n.At != 9 {
		t.Errorf("places: %d, %d, %d", found.At, stripped.At, n.At)
	}
	if half, ok := Find(n, path[:nested/2]); !ok || Depth(half) != nested-nested/2 {
		t.Errorf("half way down: %d, %t", Depth(half), ok)
	}
	holdNone(t, n, append(path, 0)...)
	path[nested-2] = 1
	holdNone(t, n, path...)
}
