package alias

import (
	"slices"
	"strconv"
	"testing"

	"lathe/api"
	"lathe/samples"
	"lathe/tree"
)

// A grower makes programs from all over, the same ones in each run.
type grower struct {
	samples.Source
	left int // how many nodes may still be made
}

func (g *grower) upTo(n int) int { return int(g.Next()>>8) % n }

// letName is one of few, so that names mean lets, or are those of aliases and calls.
func (g *grower) letName() string {
	return []string{"a", "b", "c", "rate", "sgd", "chain"}[g.upTo(6)]
}

// program has few lets, mostly, and a call.
func (g *grower) program() api.Node {
	g.left = 5 + g.upTo(120)
	count := []int{0, 0, 1, 2, 3, 5, 9, 14}[g.upTo(8)]
	var all []api.Node
	for range count {
		all = append(all, lets(g.letName(), g.value(1+g.upTo(4)), api.Node{}))
	}
	n := g.call(1 + g.upTo(7))
	for _, one := range slices.Backward(all) {
		one.Args[1] = n
		n = one
	}
	return n
}

// value is one of each kind, most of them calls.
func (g *grower) value(depth int) api.Node {
	g.left--
	if depth > 1 && g.left > 0 && g.upTo(3) > 0 {
		return g.call(depth)
	}
	switch g.upTo(7) {
	case 0:
		return num(g.Near(api.One, 20))
	case 1:
		return whole(g.UpTo(maxCount))
	case 2:
		return text([]string{"", "w*", "sgd"}[g.upTo(3)])
	case 3:
		return named([]string{"x", "true", "false", "adam"}[g.upTo(4)])
	}
	return named(g.letName())
}

// call is one of an alias without a fault, or another one.
func (g *grower) call(depth int) api.Node {
	if g.upTo(2) == 0 {
		return g.aliased(depth)
	}
	n := call([]string{"chain", "f", "scale", "a", "masked"}[g.upTo(5)])
	for range g.upTo(4) {
		if depth == 1 || g.left < 1 {
			break
		}
		value := g.value(depth - 1)
		if g.upTo(3) == 0 {
			value.Key = []string{"k", "rate", "sgd"}[g.upTo(3)]
		}
		n.Args = append(n.Args, value)
	}
	return n
}

// aliased is a call of an alias: some of the arguments by place, others by name in any order.
func (g *grower) aliased(depth int) api.Node {
	name := Names()[g.upTo(17)]
	keys := lines()[name].names
	n := call(name)
	places := g.upTo(len(keys) + 1)
	for range places {
		n.Args = append(n.Args, g.value(depth-1))
	}
	rest := slices.Clone(keys[places:])
	for len(rest) > 0 {
		i := g.upTo(len(rest))
		if rest[i] == "rate" || g.upTo(2) == 0 {
			n.Args = append(n.Args, keyed(rest[i], g.value(depth-1)))
		}
		rest = slices.Delete(rest, i, i+1)
	}
	return n
}

// harmed is the tree with one of its nodes changed: mostly a fault.
func (g *grower) harmed(n api.Node) api.Node {
	if len(n.Args) > 0 && g.upTo(4) > 0 {
		i := g.upTo(len(n.Args))
		n.Args = slices.Clone(n.Args)
		n.Args[i] = g.harmed(n.Args[i])
		return n
	}
	switch g.upTo(16) {
	case 0:
		n.Kind = g.upTo(8)
	case 1:
		n.Name = []string{"x", "", "A", "sgd", "true"}[g.upTo(5)]
	case 2:
		n.Key = ""
	case 3:
		n.Key = []string{"k", "rate", "eps", "momentum"}[g.upTo(4)]
	case 4:
		return nest(g.upTo(2*maxDepth), "f", n)
	case 5:
		return call("f", many(g.upTo(2*maxNodes)/len(inOrder(n)), n)...)
	default:
		return g.misgiven(n)
	}
	return n
}

// misgiven is a call of an alias with arguments that are mostly at fault, one of them the node.
func (g *grower) misgiven(n api.Node) api.Node {
	out := g.aliased(2)
	key := append(lines()[out.Name].names, "k")[g.upTo(len(lines()[out.Name].names)+1)]
	switch g.upTo(5) {
	case 0:
		out.Args = append(out.Args, keyed(key, n))
	case 1:
		out.Args = append([]api.Node{keyed(key, n)}, out.Args...)
	case 2:
		out.Args = append(out.Args, keyed("", n))
	case 3:
		out.Args = many(g.upTo(9), keyed("", n))
	case 4:
		out.Args = many(g.upTo(2), keyed(key, n))
	}
	return out
}

// isAlias tells whether a node is a call of an alias.
func isAlias(n api.Node) bool {
	_, ok := lines()[n.Name]
	return ok && n.Kind == nodeCall
}

// holdTold: AL2, Expand answers what the chapter's words say.
func holdTold(t *testing.T, n api.Node) api.Errno {
	t.Helper()
	want, e, at := told(n)
	if e != api.OK {
		holdFault(t, n, e, at)
	} else {
		holdTree(t, n, want)
	}
	return e
}

// holdLaws: AL3, at a tree that has an expansion.
func holdLaws(t *testing.T, n api.Node) {
	t.Helper()
	got, e, _ := Expand(n)
	if e != api.OK {
		return
	}
	if f := tree.Check(got); f != api.OK {
		t.Errorf("the expansion of %s: %d", brief(dump(n)), f)
	}
	plain := true
	for _, m := range inOrder(n) {
		plain = plain && m.Kind != nodeLet && !isAlias(m)
	}
	for _, m := range inOrder(got) {
		if m.Kind == nodeLet || isAlias(m) {
			t.Errorf("the expansion of %s has %s", brief(dump(n)), brief(dump(m)))
		}
	}
	holdTree(t, got, got)
	if plain {
		holdTree(t, n, n)
	}
	if n.Kind == nodeLet {
		holdTree(t, written(n).tree, got)
	}
	if n.Kind == nodeCall && !isAlias(n) {
		holdPlaceByPlace(t, n)
	}
}

// holdPlaceByPlace: AL3, a call that is no alias becomes that call with its arguments expanded.
func holdPlaceByPlace(t *testing.T, n api.Node) {
	t.Helper()
	want := n
	want.Args = nil
	for _, a := range n.Args {
		one, e, at := Expand(keyed("", a))
		if e != api.OK {
			t.Errorf("Expand of %s by itself: %d, %d", brief(dump(a)), e, at)
		}
		want.Args = append(want.Args, keyed(a.Key, one))
	}
	holdTree(t, n, want)
}

// TestProgramsFromAllOver: AL2 and AL3, at programs of all shapes and at trees that have no expansion.
func TestProgramsFromAllOver(t *testing.T) {
	g, count := &grower{Source: samples.Source(121)}, map[api.Errno]int{}
	for range 12000 {
		if t.Failed() {
			return
		}
		n := g.program()
		if g.upTo(3) == 0 {
			n = g.harmed(n)
		}
		n = numbered(g.UpTo(1000), n)
		count[holdTold(t, n)]++
		holdLaws(t, n)
	}
	for e, least := range map[api.Errno]int{api.OK: 6000, errTree: 500, errDeep: 80, errMany: 50, errArity: 200, errKey: 300} {
		if count[e] < least {
			t.Errorf("%v: that tells too little", count)
		}
	}
}

// TestSmallPrograms: AL2 and AL3, all programs of two lets and few nodes, names that mean them or not.
func TestSmallPrograms(t *testing.T) {
	small := []api.Node{whole(1), named("a"), named("b"), call("sgd", named("a")), call("g", named("b"), keyed("k", named("a"))), call("a", call("adadelta", keyed("rate", named("b"))))}
	programs := []api.Node{call("f"), call("f", named("a")), call("f", named("b"), named("a")), call("sgd", named("a"), keyed("nesterov", named("b"))), call("a", call("b", named("b"))), call("lars", named("b"), named("b"), named("a"))}
	for _, first := range []string{"a", "b", "c"} {
		for _, second := range []string{"a", "b", "sgd"} {
			for _, value := range small {
				for _, other := range small {
					for _, program := range programs {
						n := numbered(10, lets(first, value, lets(second, other, program)))
						holdTold(t, n)
						holdLaws(t, n)
					}
				}
			}
		}
	}
}

// TestNamesOfLets: AL2, as many lets as there can be with names of their own, each meaning two of those ahead of it.
func TestNamesOfLets(t *testing.T) {
	for _, back := range []int{2, 3, 5, 8, 13, 30} {
		n := call("f", named("a60"), named("a"+strconv.Itoa(60-back)), named("a61"))
		for i := 60; i >= 0; i-- {
			n = lets("a"+strconv.Itoa(i), call("sgd", named("a"+strconv.Itoa(i-back)), named("a"+strconv.Itoa(i-2*back))), n)
		}
		holdTold(t, numbered(3, n))
	}
}
