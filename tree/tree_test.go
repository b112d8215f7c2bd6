package tree

import (
	"slices"
	"strconv"
	"strings"
	"testing"

	"lathe/api"
	"lathe/samples"
)

// The limits, as the document has them.
const (
	maxDepth = 64
	maxNodes = 4096
	maxName  = 64
	maxCount = 2147483647
	nested   = 65536 // as many parts in one another as are promised
)

func call(name string, args ...api.Node) api.Node {
	return api.Node{Kind: 1, Name: name, Args: args}
}

func number(a api.F) api.Node   { return api.Node{Kind: 2, Num: a} }
func whole(n int) api.Node      { return api.Node{Kind: 3, Int: n} }
func word(name string) api.Node { return api.Node{Kind: 4, Name: name} }
func text(s string) api.Node    { return api.Node{Kind: 5, Name: s} }

func let(name string, value, rest api.Node) api.Node {
	return api.Node{Kind: 6, Name: name, Args: []api.Node{value, rest}}
}

func keyed(key string, n api.Node) api.Node {
	n.Key = key
	return n
}

func placed(at int, n api.Node) api.Node {
	n.At = at
	return n
}

// nest is a call within a call within a call, so many around the innermost node.
func nest(around int, inner api.Node) api.Node {
	for range around {
		inner = call("f", inner)
	}
	return inner
}

// many is a list of nodes that are alike.
func many(count int, n api.Node) []api.Node {
	list := make([]api.Node, count)
	for i := range list {
		list[i] = n
	}
	return list
}

// example is the chapter's tree, with the places of its text.
func example() api.Node {
	return call("chain", placed(6, call("scale", placed(12, number(0x3f000000)))), placed(18, call("identity")))
}

// dump is a tree as a text that tells each part of it, but for places.
func dump(n api.Node) string {
	var out strings.Builder
	pour(&out, n, false)
	return out.String()
}

// dumpWithPlaces tells the places too.
func dumpWithPlaces(n api.Node) string {
	var out strings.Builder
	pour(&out, n, true)
	return out.String()
}

func pour(out *strings.Builder, n api.Node, places bool) {
	out.WriteString("{" + strconv.Itoa(n.Kind) + strconv.Quote(n.Name) + strconv.FormatUint(uint64(n.Num), 16) + "/" + strconv.Itoa(n.Int) + strconv.Quote(n.Key))
	if places {
		out.WriteString("@" + strconv.Itoa(n.At))
	}
	for _, a := range n.Args {
		pour(out, a, places)
	}
	out.WriteString("}")
}

// brief is enough of a tree to know it by.
func brief(n api.Node) string {
	s := dump(n)
	return s[:min(len(s), 200)]
}

// A flat node is one of a tree's, with what is around it.
type flat struct {
	node  api.Node
	depth int
	above int // its place in the list; -1 of the root
	path  []int
}

// flatten is a tree's nodes in their order, by a list of those that are to come.
func flatten(n api.Node) []flat {
	var list []flat
	next := []flat{{node: n, depth: 1, above: -1}}
	for len(next) > 0 {
		f := next[len(next)-1]
		next = next[:len(next)-1]
		for i := len(f.node.Args) - 1; i >= 0; i-- {
			next = append(next, flat{node: f.node.Args[i], depth: f.depth + 1, above: len(list), path: append(slices.Clone(f.path), i)})
		}
		list = append(list, f)
	}
	return list
}

// pick is one of a list.
func pick[T any](s *samples.Source, list ...T) T {
	return list[int(s.Next()>>8)%len(list)]
}

// wild is any tree of so many levels at most, most of whose nodes may not be.
func wild(s *samples.Source, levels int) api.Node {
	long := strings.Repeat("n", maxName+1)
	n := api.Node{
		Kind: pick(s, 1, 1, 1, 2, 3, 4, 5, 6, 0, 7, -3),
		Name: pick(s, "", "a", "scale", "Scale", "true", "\xff", "b c", "q\"", long),
		Num:  pick(s, samples.Edges()...),
		Int:  pick(s, 0, 1, -7, maxCount, -maxCount-1),
		Key:  pick(s, "", "", "lr", "9", long),
		At:   s.UpTo(100),
	}
	if levels > 1 {
		for range s.Next() >> 8 % 4 {
			n.Args = append(n.Args, wild(s, levels-1))
		}
	}
	return n
}

// tame is a tree that may be, without lets: a call at its root, or any value.
func tame(s *samples.Source, levels int) api.Node {
	var n api.Node
	switch {
	case levels > 1 && s.Next()>>8%3 > 0:
		n = call(pick(s, "chain", "f", "_", "let", "true", "x9"))
		for range s.Next() >> 8 % 4 {
			n.Args = append(n.Args, keyed(pick(s, "", "lr", "false", "_0"), tame(s, levels-1)))
		}
	default:
		n = pick(s, number(s.Next()&0xbf7fffff), whole(s.UpTo(1000000)), word("b1"), word("false"), text(""), text("w *~#!"), call("identity"))
	}
	return placed(s.UpTo(1000), n)
}

// bound is a tree that may be: lets, so many at most, and what they are for.
func bound(s *samples.Source, lets, levels int) api.Node {
	if lets == 0 || s.Next()>>8%4 == 0 {
		return call("chain", tame(s, levels), tame(s, levels))
	}
	return let(pick(s, "a", "let", "true_", "x1"), tame(s, levels), bound(s, lets-1, levels))
}

// trees gives trees of all shapes: some that may be, some that may not, some in between.
func trees(t *testing.T, hold func(api.Node)) {
	s := samples.Source(7)
	for range 1500 {
		if t.Failed() {
			return
		}
		hold(wild(&s, 4))
		hold(tame(&s, 6))
		hold(bound(&s, 4, 4))
		hold(spoilt(&s, bound(&s, 3, 5)))
		hold(spoilt(&s, spoilt(&s, bound(&s, 2, 4))))
	}
	hold(api.Node{})
	hold(example())
	hold(nest(maxDepth-1, whole(1)))
	hold(nest(maxDepth, whole(1)))
	hold(call("f", many(maxNodes-1, text("w"))...))
	hold(call("f", many(maxNodes, text("w"))...))
}

// spoilt is the tree with one of its nodes changed in one part, in which it may be still, or not.
func spoilt(s *samples.Source, n api.Node) api.Node {
	n = fresh(n)
	at := &n
	for len(at.Args) > 0 && s.Next()>>8%3 > 0 {
		at = &at.Args[int(s.Next()>>8)%len(at.Args)]
	}
	long := strings.Repeat("m", maxName+1)
	switch s.Next() >> 8 % 7 {
	case 0:
		at.Kind = pick(s, 0, 1, 2, 3, 4, 5, 6, 7)
	case 1:
		at.Name = pick(s, "", "true", "false", "A", "0", "a b", "\x7f", long, long[1:])
	case 2:
		at.Num = pick(s, samples.Edges()...)
	case 3:
		at.Int = pick(s, 1, maxCount, maxCount+1, -maxCount, -maxCount-1)
	case 4:
		at.Key = pick(s, "", "k", "K", "7", long, long[1:])
	case 5:
		at.Args = append(at.Args, wild(s, 2))
	case 6:
		at.Args = append(at.Args, bound(s, 1, 2))
	}
	return n
}

// fresh is the tree in memory of its own, its texts as they are.
func fresh(n api.Node) api.Node {
	n.Args = slices.Clone(n.Args)
	for i := range n.Args {
		n.Args[i] = fresh(n.Args[i])
	}
	return n
}

// TestExamples: the chapter's.
func TestExamples(t *testing.T) {
	n := example()
	if e := Check(n); e != 0 {
		t.Errorf("Check: %d", e)
	}
	if Count(n) != 4 || Depth(n) != 3 {
		t.Errorf("Count %d, Depth %d, want 4, 3", Count(n), Depth(n))
	}
	if names := Names(n); !slices.Equal(names, []string{"chain", "scale", "identity"}) {
		t.Errorf("Names: %q", names)
	}
	if x, ok := Find(n, []int{0, 0}); !ok || dumpWithPlaces(x) != dumpWithPlaces(placed(12, number(0x3f000000))) {
		t.Errorf("Find: %s, %t", brief(x), ok)
	}
	holdFault(t, api.Node{Kind: 3, Args: []api.Node{whole(1)}}, api.ErrTree)
	holdFault(t, call("Scale"), api.ErrTree)
}
