package mask

import (
	"strings"
	"testing"

	"lathe/api"
)

// holdNoMask: the node is no mask, by itself and as an argument, first or not, at whatever place.
func holdNoMask(t *testing.T, n api.Node) {
	t.Helper()
	good := call("not", glob("w"))
	for _, at := range []int{0, 1, 44, -1, maxInt, minInt} {
		m := placed(at, n)
		if n.Key == "" {
			holdFault(t, m, example(), 110, at)
		}
		holdFault(t, placed(7, call("not", m)), example(), 110, at)
		holdFault(t, placed(7, call("and", m)), example(), 110, at)
		holdFault(t, placed(7, call("or", good, m)), example(), 110, at)
		holdFault(t, placed(7, call("and", good, m, good)), example(), 110, at)
		holdFault(t, placed(7, call("or", call("and", good, call("not", m)), good)), example(), 110, at)
	}
}

// TestCounts: M2, too few arguments and too many.
func TestCounts(t *testing.T) {
	for _, name := range []string{"all", "none", "real", "complex"} {
		for _, count := range []int{1, 2, 3, 100} {
			holdNoMask(t, call(name, many(count, glob("w"))...))
			holdNoMask(t, call(name, many(count, call("all"))...))
			holdNoMask(t, call(name, many(count, placed(9, call("foo")))...))
		}
	}
	for _, count := range []int{0, 2, 3, 100} {
		holdNoMask(t, call("not", many(count, glob("w"))...))
		holdNoMask(t, call("not", many(count, placed(9, glob("x")))...))
	}
	holdNoMask(t, call("and"))
	holdNoMask(t, call("or"))
	empty := call("and")
	empty.Args = []api.Node{}
	holdNoMask(t, empty)
	empty.Args = many(3, glob("w"))[:0]
	holdNoMask(t, empty)
}

// TestOtherNames: M2, calls of another name, with any number of arguments.
func TestOtherNames(t *testing.T) {
	for _, name := range []string{"", "foo", "All", "ALL", "al", "alls", "all ", " all", "all\x00", "nota", "no", "nor", "xor", "an", "andy", "Or", "o", "reals", "complexes", "comple", "w", "*", "?", "true", "\xff", "identity", strings.Repeat("not", 1000)} {
		for count := range 4 {
			holdNoMask(t, call(name, many(count, glob("w"))...))
		}
	}
}

// TestOtherKinds: M2, nodes of every other kind, also such as have the name or the arguments of a mask.
func TestOtherKinds(t *testing.T) {
	for _, kind := range []int{nodeNumber, nodeWhole, nodeName, nodeLet, 0, 7, -1, -5, 10, 1<<32 + nodeCall, 1<<32 + nodeText, maxInt, minInt} {
		for _, name := range []string{"", "w", "*", "all", "not", "and", "true"} {
			for count := range 3 {
				holdNoMask(t, api.Node{Kind: kind, Name: name, Args: many(count, glob("w"))})
			}
		}
	}
	holdNoMask(t, api.Node{Kind: nodeNumber, Num: 0x3f800000})
	holdNoMask(t, api.Node{Kind: nodeWhole, Int: 1})
	holdNoMask(t, api.Node{Kind: nodeLet, Name: "a", Args: []api.Node{call("all"), call("all")}})
}

// TestKeys: M2, an argument with a Key is at fault, whatever else it is.
func TestKeys(t *testing.T) {
	for _, key := range []string{"k", "mask", "_", " ", "\x00", strings.Repeat("k", 1000)} {
		for _, n := range []api.Node{glob("w"), glob("*"), glob("x"), call("all"), call("none"), call("real"), call("complex"), call("not", glob("w")), call("and", glob("w")), call("or", placed(8, glob("x"))), call("not"), call("foo"), {}, {Kind: nodeWhole}} {
			holdNoMask(t, keyed(key, n))
		}
	}
}

// TestNoName: M2, a glob that means no name, wherever it stands and whether or not the mask's meaning hangs on it.
func TestNoName(t *testing.T) {
	for _, at := range []int{0, 1, 44, -1, maxInt, minInt} {
		x := placed(at, glob("x*"))
		for _, n := range []api.Node{x, call("not", x), call("and", x), call("or", x), call("and", call("none"), x), call("and", x, call("none")), call("or", call("all"), x), call("or", x, call("all")), call("or", glob("w"), call("and", call("none"), call("not", x)), glob("b"))} {
			if n.Kind == nodeCall {
				n.At = 7
			}
			holdFault(t, n, example(), 111, at)
		}
	}
}

// TestFirstFault: M2, of several nodes at fault the first in their order says the error.
func TestFirstFault(t *testing.T) {
	none, bad, wrong, key := glob("x"), api.Node{Kind: nodeWhole}, call("foo"), keyed("k", glob("w"))
	good := call("and", glob("w"), call("all"))
	for _, c := range []struct {
		n    api.Node
		want api.Errno
		at   int // the node's number in the order, from 100 on
	}{
		{call("and", none, bad), 111, 101},
		{call("and", bad, none), 110, 101},
		{call("and", none, key), 111, 101},
		{call("and", key, none), 110, 101},
		{call("or", none, none), 111, 101},
		{call("or", wrong, bad), 110, 101},
		{call("or", good, none, bad), 111, 104},
		{call("or", good, bad, none), 110, 104},
		{call("or", good, call("not", none), bad), 111, 105},
		{call("or", call("not", call("not", none)), bad), 111, 103},
		{call("or", call("not", call("not", bad)), none), 110, 103},
		{call("or", call("and", good, none), wrong), 111, 105},
		{call("not", none, bad), 110, 100},
		{call("not", none, none), 110, 100},
		{call("foo", none), 110, 100},
		{call("all", none), 110, 100},
		{call("or", call("all", none), none), 110, 101},
		{call("or", call("and"), none), 110, 101},
		{call("or", keyed("k", call("not", none)), none), 110, 101},
		{call("or", keyed("k", none), none), 110, 101},
		{call("or", good, call("or", good, call("not", good, good)), none), 110, 108},
		{api.Node{Kind: nodeName, Name: "w", Args: []api.Node{none}}, 110, 100},
		{api.Node{Kind: nodeText, Name: "x", Args: []api.Node{bad}}, 111, 100},
		{call("or", api.Node{Kind: nodeText, Name: "w", Args: []api.Node{bad, none}}, none), 111, 104},
		{call("or", api.Node{Kind: nodeText, Name: "w", Args: []api.Node{none}}, bad), 110, 103},
	} {
		holdFault(t, numbered(100, c.n), example(), c.want, c.at)
		holdFault(t, keyed("k", numbered(100, c.n)), example(), c.want, c.at)
		holdFault(t, numbered(99, call("and", c.n)), example(), c.want, c.at)
		holdFault(t, numbered(96, call("or", good, c.n)), example(), c.want, c.at)
	}
}

// TestDepth: M2, trees of the depth MaxDepth and of one more.
func TestDepth(t *testing.T) {
	holdSet(t, nest(maxDepth-1, glob("b")), example(), 0, 2)
	holdSet(t, nest(maxDepth-2, glob("b")), example(), 1)
	holdFault(t, placed(5, nest(maxDepth, glob("b"))), example(), 81, 5)
	for _, at := range []int{0, 1, -1, maxInt, minInt} {
		for _, depth := range []int{maxDepth + 1, maxDepth + 2, 1000, 1 << 16} {
			deep := nest(depth-2, call("not", placed(9, glob("b"))))
			deep.At = at
			holdFault(t, deep, example(), 81, at)
			holdFault(t, keyed("k", deep), example(), 81, at)
		}
	}
	under := placed(9, nest(maxDepth-2, glob("b")))
	holdSet(t, call("or", glob("w"), under), example(), 0, 1)
	holdSet(t, call("or", under, glob("w")), example(), 0, 1)
	holdFault(t, placed(5, call("or", glob("w"), call("and", under), glob("b"))), example(), 81, 5)
	holdFault(t, placed(5, call("or", call("and", under), glob("w"))), example(), 81, 5)
}

// TestDeepAndFaulty: M2, too deep is told ahead of any other fault; one that is deep enough tells its own.
func TestDeepAndFaulty(t *testing.T) {
	for _, n := range []api.Node{glob("x"), call("foo"), call("not"), {}, {Kind: nodeWhole}, call("and")} {
		want := api.Errno(110)
		if n.Kind == nodeText {
			want = 111
		}
		holdFault(t, nest(maxDepth-1, placed(9, n)), example(), want, 9)
		holdFault(t, placed(5, nest(maxDepth, placed(9, n))), example(), 81, 5)
		holdFault(t, placed(5, call("or", placed(9, n), nest(maxDepth, glob("b")))), example(), 81, 5)
		holdFault(t, placed(5, call("foo", placed(9, n), nest(maxDepth, glob("b")))), example(), 81, 5)
	}
	holdFault(t, placed(5, call("not", keyed("k", nest(maxDepth, glob("b"))))), example(), 81, 5)
	holdFault(t, placed(5, api.Node{Kind: 99, Args: many(1, nest(maxDepth-1, glob("b")))}), example(), 81, 5)
	holdFault(t, placed(5, api.Node{Kind: 99, Args: many(1, nest(maxDepth-2, glob("b")))}), example(), 110, 5)
}

// TestDepthBelowText: M2, the depth is that of chapter 7, to which a text's arguments count though they are not looked at.
func TestDepthBelowText(t *testing.T) {
	below := func(n api.Node) api.Node { return placed(5, api.Node{Kind: nodeText, Name: "b", Args: many(1, n)}) }
	holdSet(t, below(nest(maxDepth-2, call("foo"))), example(), 1)
	holdFault(t, below(nest(maxDepth-1, call("foo"))), example(), 81, 5)
	holdSet(t, call("not", below(nest(maxDepth-3, call("foo")))), example(), 0, 2)
	holdFault(t, placed(6, call("not", below(nest(maxDepth-2, call("foo"))))), example(), 81, 6)
}
