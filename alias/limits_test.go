package alias

import (
	"strconv"
	"strings"
	"testing"

	"lathe/api"
)

// TestRefusedTrees: AL2, each error of tree.Check, at the root's place, ahead of all others.
func TestRefusedTrees(t *testing.T) {
	long := strings.Repeat("n", maxName+1)
	faulty := call("adam", placed(9, keyed("x", whole(1))))
	for _, c := range []struct {
		n    api.Node
		want api.Errno
	}{
		{api.Node{}, errTree}, {api.Node{Kind: 7}, errTree}, {api.Node{Kind: -1}, errTree},
		{call("Scale"), errTree}, {call(""), errTree}, {call("1a"), errTree},
		{keyed("k", call("f")), errTree}, {call("f", keyed("K", whole(1))), errTree},
		{api.Node{Kind: nodeWhole, Args: many(1, whole(1))}, errTree}, {api.Node{Kind: nodeName, Name: "a", Args: many(1, whole(1))}, errTree},
		{num(0x7f800000), errTree}, {num(0x7fc00000), errTree}, {text("\""), errTree}, {text("\n"), errTree}, {named("A"), errTree},
		{whole(maxCount + 1), errTree}, {api.Node{Kind: nodeCall, Name: "sgd", Num: 1}, errTree}, {api.Node{Kind: nodeCall, Name: "sgd", Int: 1}, errTree},
		{lets("true", whole(1), call("f")), errTree}, {lets("false", whole(1), call("f")), errTree}, {lets("a", whole(1), whole(2)), errTree},
		{lets("a", lets("b", whole(1), call("f")), call("f")), errTree}, {call("f", lets("b", whole(1), call("f"))), errTree},
		{lets("a", keyed("k", whole(1)), call("f")), errTree}, {lets("a", whole(1), keyed("k", call("f"))), errTree},
		{api.Node{Kind: nodeLet, Name: "a", Args: many(1, call("f"))}, errTree}, {api.Node{Kind: nodeLet, Name: "a", Args: many(3, call("f"))}, errTree},
		{call(long), errLong}, {call("f", keyed(long, whole(1))), errLong}, {text(strings.Repeat("w", maxName+1)), errLong}, {lets(long, whole(1), call("f")), errLong},
		{nest(maxDepth, "f", whole(1)), errDeep}, {nest(1000, "sgd", whole(1)), errDeep}, {nest(1<<16-1, "f", whole(1)), errDeep},
		{call("f", many(maxNodes, whole(1))...), errMany}, {call("sgd", many(maxNodes, whole(1))...), errMany}, {call("f", many(100000, whole(1))...), errMany},
		{call("f", nest(maxDepth-1, "f", call(long)), whole(maxCount+1)), errDeep},
		{call("f", append(many(maxNodes, call(long)), nest(maxDepth, "f", whole(1)))...), errDeep},
		{call("sgd", faulty, call(long)), errLong}, {call("sgd", faulty, call("A")), errTree}, {lets("a", faulty, call("f", named("a"), whole(maxCount+1))), errTree},
		{lets("a", call("A"), call("f", faulty)), errTree},
	} {
		for _, at := range []int{0, 5, -1, maxInt, minInt} {
			holdFault(t, placed(at, c.n), c.want, at)
		}
	}
}

// doubled are lets, each of which has so many names of the one ahead of it, and a program with those arguments.
func doubled(count, width int, program ...api.Node) api.Node {
	n := call("f", program...)
	for i := count; i > 0; i-- {
		n = lets("a"+strconv.Itoa(i), call("g", many(width, named("a"+strconv.Itoa(i-1)))...), n)
	}
	return placed(5, lets("a0", whole(1), n))
}

// TestDoublingLets: AL2, lets that would make far more nodes than there may be, told at once.
func TestDoublingLets(t *testing.T) {
	for _, count := range []int{12, 13, 20, 30, 31, 32, 33, 40, 60, 61} {
		for _, width := range []int{2, 3, 4, 8, 16, 60} {
			last := named("a" + strconv.Itoa(count))
			holdFault(t, doubled(count, width, last), errMany, 5)
			holdFault(t, doubled(count, width, whole(1), last), errMany, 5)
			holdFault(t, doubled(count, width, many(100, last)...), errMany, 5)
			holdSame(t, doubled(count, width, whole(1)), call("f", whole(1)))
			holdSame(t, doubled(count, width, named("a1")), call("f", call("g", many(width, whole(1))...)))
		}
	}
	huge := doubled(61, 2, named("b"))
	program := &huge
	for program.Kind == nodeLet {
		program = &program.Args[1]
	}
	*program = call("f", named("a61"), call("sgd"))
	holdFault(t, huge, errMany, 5)
}

// TestDoubledToTheLimit: AL2, lets that make just as many nodes as there may be, and one more.
func TestDoubledToTheLimit(t *testing.T) {
	last := named("a10") // 2^11 - 1 nodes
	n, e, _ := Expand(doubled(10, 2, last, last, whole(2)))
	if e != api.OK || len(inOrder(n)) != maxNodes {
		t.Errorf("%d nodes, %d", len(inOrder(n)), e)
	}
	holdFault(t, doubled(10, 2, last, last, whole(2), whole(2)), errMany, 5)
	holdFault(t, doubled(11, 2, named("a11"), whole(2)), errMany, 5) // 2^12 - 1, and two
	n, e, _ = Expand(doubled(11, 2, named("a11")))
	if e != api.OK || len(inOrder(n)) != maxNodes {
		t.Errorf("%d nodes, %d", len(inOrder(n)), e)
	}
}

// TestManyWhenWritten: AL2, trees that have too many nodes only when they are written out, and such as just have not.
func TestManyWhenWritten(t *testing.T) {
	for _, size := range []int{2, 10, 100, 1000} {
		value := call("g", many(size-1, whole(1))...)
		count := (maxNodes - 1) / size
		fill := many(maxNodes-1-count*size, text("w"))
		names, values := append(many(count, named("a")), fill...), append(many(count, level(0, value)), fill...)
		holdTree(t, placed(5, lets("a", value, call("f", names...))), call("f", values...))
		holdFault(t, placed(5, lets("a", value, call("f", append(names, whole(1))...))), errMany, 5)
	}
	holdTree(t, lets("a", whole(1), call("f", many(4000, named("a"))...)), call("f", many(4000, whole(1))...))
}

// TestFewerWhenWritten: AL2, lets that are dropped make fewer nodes and less depth: what is dropped is not counted.
func TestFewerWhenWritten(t *testing.T) {
	value := call("g", many(4000, whole(1))...)
	holdTree(t, lets("a", value, lets("b", call("g", many(50, named("a"))...), call("f"))), call("f"))
	holdTree(t, lets("a", nest(60, "g", whole(1)), lets("b", nest(60, "g", named("a")), lets("c", nest(58, "g", named("b")), call("f", whole(2))))), call("f", whole(2)))
	holdTree(t, lets("a", nest(60, "g", whole(1)), lets("a", nest(60, "g", named("a")), lets("a", whole(3), call("f", named("a"))))), call("f", whole(3)))
}

// TestDeepWhenWritten: AL2, trees that are too deep only when they are written out, and such as just are not.
func TestDeepWhenWritten(t *testing.T) {
	for _, depth := range []int{1, 2, 30, 60, 61, 62} {
		value := nest(depth-1, "g", whole(1))
		for _, above := range []int{maxDepth - depth, maxDepth - depth + 1} {
			n := placed(5, lets("a", value, nest(above, "f", named("a"))))
			if above+2 > maxDepth {
				holdFault(t, n, errDeep, 5) // that is too deep already
			} else if above+depth > maxDepth {
				holdFault(t, n, errDeep, 5)
			} else {
				holdTree(t, n, nest(above, "f", value))
			}
		}
	}
	three := func(count int) api.Node {
		return placed(5, lets("a", nest(20, "g", whole(1)), lets("b", nest(20, "h", named("a")), nest(count, "f", named("b")))))
	}
	holdTree(t, three(23), nest(23, "f", nest(20, "h", nest(20, "g", whole(1)))))
	holdFault(t, three(24), errDeep, 5)
	side := placed(5, lets("a", nest(40, "g", whole(1)), call("f", named("a"), nest(30, "f", named("a")), whole(1))))
	holdFault(t, side, errDeep, 5)
}

// TestDeepAndMany: AL2, of a tree written out that is too deep and has too many nodes it is told that it is too deep.
func TestDeepAndMany(t *testing.T) {
	value := call("g", append(many(99, whole(1)), nest(61, "g", whole(1)))...)
	holdFault(t, placed(5, lets("a", value, call("f", many(100, call("f", named("a")))...))), errDeep, 5)
	holdFault(t, placed(5, lets("a", value, call("f", many(100, named("a"))...))), errMany, 5)
	steep := func(program ...api.Node) api.Node { // a60 has 61 levels and 2^60 nodes and more
		n := call("f", program...)
		for i := 60; i > 0; i -= 2 {
			n = lets("a"+strconv.Itoa(i), call("g", call("g", many(4, named("a"+strconv.Itoa(i-2)))...)), n)
		}
		return placed(5, lets("a0", whole(1), n))
	}
	holdFault(t, steep(nest(2, "f", named("a60"))), errMany, 5)
	holdFault(t, steep(nest(3, "f", named("a60"))), errDeep, 5)
	holdFault(t, steep(named("a60"), nest(3, "f", named("a60")), whole(1)), errDeep, 5)
}

// sgds is a call of so many calls of sgd, each of two nodes that become six, and of so many other nodes.
func sgds(count, others int) api.Node {
	return placed(5, call("f", append(many(count, call("sgd", whole(1))), many(others, whole(2))...)...))
}

// TestManyWhenExpanded: AL2, trees that have too many nodes only when they are expanded, and such as just have not.
func TestManyWhenExpanded(t *testing.T) {
	for _, count := range []int{1, 2, 100, 681, 682} {
		n, e, _ := Expand(sgds(count, maxNodes-1-6*count))
		if e != api.OK || len(inOrder(n)) != maxNodes {
			t.Errorf("%d nodes, %d", len(inOrder(n)), e)
		}
		holdFault(t, sgds(count, maxNodes-6*count), errMany, 5)
	}
	holdFault(t, sgds(683, 0), errMany, 5)
	holdFault(t, sgds(2047, 0), errMany, 5)
	holdFault(t, sgds(2047, 1), errMany, 5)
	full := placed(5, lets("a", call("sgd", whole(1)), call("f", many(683, named("a"))...)))
	holdFault(t, full, errMany, 5)
	lamb := call("lamb", named("r")) // two nodes become twenty-two
	holdFault(t, placed(5, call("f", many(2047, lamb)...)), errMany, 5)
}

// TestDeepWhenExpanded: AL2, trees that are too deep only when they are expanded, and such as just are not.
func TestDeepWhenExpanded(t *testing.T) {
	sgd, made := call("sgd", whole(1)), level(0, read("chain(trace(0.0, false), scale(-1.0))"))
	holdTree(t, placed(5, nest(61, "f", sgd)), placed(5, nest(61, "f", made)))
	holdFault(t, placed(5, nest(62, "f", sgd)), errDeep, 5)
	holdFault(t, placed(5, call("f", whole(1), nest(61, "f", sgd), whole(1))), errDeep, 5)
	rate := func(count int) api.Node { return placed(5, call("scale_by_learning_rate", nest(count, "f", whole(1)))) }
	holdSame(t, rate(61), call("chain", call("scale_by_schedule", nest(61, "f", whole(1))), call("scale", num(0xbf800000))))
	holdFault(t, rate(62), errDeep, 5)
	holdFault(t, placed(5, nest(63, "sgd", whole(1))), errDeep, 5)
	if _, e, _ := Expand(nest(20, "scale_by_learning_rate", named("x"))); e != api.OK { // depth 21 becomes 41
		t.Error(e)
	}
	if _, e, _ := Expand(nest(31, "scale_by_learning_rate", named("x"))); e != api.OK { // 63
		t.Error(e)
	}
	holdFault(t, placed(5, nest(32, "scale_by_learning_rate", named("x"))), errDeep, 5)
	holdFault(t, placed(5, nest(22, "sgd", named("x"))), errDeep, 5) // each of them is three levels
	if _, e, _ := Expand(nest(21, "sgd", named("x"))); e != api.OK {
		t.Error(e)
	}
}

// TestOrderOfErrors: AL2, a written tree's limits come ahead of an alias's fault, this ahead of an expanded tree's limits.
func TestOrderOfErrors(t *testing.T) {
	fault := placed(9, call("adam"))
	value := call("g", many(99, whole(1))...)
	holdFault(t, placed(5, lets("a", value, call("f", append(many(41, named("a")), fault)...))), errMany, 5)
	holdFault(t, placed(5, lets("a", value, call("f", append([]api.Node{fault}, many(41, named("a"))...)...))), errMany, 5)
	holdFault(t, placed(5, lets("a", value, call("f", append(many(40, named("a")), fault)...))), errArity, 9)
	holdFault(t, placed(5, lets("a", nest(40, "g", whole(1)), call("f", fault, nest(30, "f", named("a"))))), errDeep, 5)
	holdFault(t, placed(5, lets("a", nest(40, "g", fault), nest(30, "f", named("a")))), errDeep, 5)
	holdFault(t, placed(5, lets("a", nest(30, "g", fault), nest(30, "f", placed(8, named("a"))))), errArity, 8)
	many683 := sgds(683, 0)
	holdFault(t, many683, errMany, 5)
	many683.Args = append(many683.Args, fault)
	holdFault(t, many683, errArity, 9)
	deep := placed(5, call("f", nest(61, "f", call("sgd", whole(1))), fault))
	holdFault(t, deep, errArity, 9)
	deep.Args = deep.Args[:1]
	holdFault(t, deep, errDeep, 5)
	deep.Args = append(deep.Args, many(2000, call("sgd", whole(1)))...)
	holdFault(t, deep, errDeep, 5)
	deep.Args[0] = nest(60, "f", call("sgd", whole(1)))
	holdFault(t, deep, errMany, 5)
}
