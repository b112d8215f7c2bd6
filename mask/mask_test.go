package mask

import (
	"slices"
	"strconv"
	"strings"
	"testing"

	"lathe/api"
)

// The limit and the kinds as the document has them.
const (
	maxDepth = 64

	kindReal    = 1
	kindComplex = 2

	nodeCall   = 1
	nodeNumber = 2
	nodeWhole  = 3
	nodeName   = 4
	nodeText   = 5
	nodeLet    = 6

	maxInt = int(^uint(0) >> 1)
	minInt = -maxInt - 1
)

func glob(text string) api.Node { return api.Node{Kind: nodeText, Name: text} }

func call(name string, args ...api.Node) api.Node {
	return api.Node{Kind: nodeCall, Name: name, Args: args}
}

func placed(at int, n api.Node) api.Node {
	n.At = at
	return n
}

func keyed(key string, n api.Node) api.Node {
	n.Key = key
	return n
}

// nest is a node under so many calls of not.
func nest(count int, n api.Node) api.Node {
	for range count {
		n = call("not", n)
	}
	return n
}

// many are so many nodes that are alike.
func many(count int, n api.Node) []api.Node { return slices.Repeat([]api.Node{n}, count) }

// numbered is the tree with a place of its own for each node: from at on, in the order of chapter 7.
func numbered(at int, n api.Node) api.Node {
	var next func(api.Node) api.Node
	next = func(n api.Node) api.Node {
		n.At = at
		at++
		n.Args = slices.Clone(n.Args)
		for i := range n.Args {
			n.Args[i] = next(n.Args[i])
		}
		return n
	}
	return next(n)
}

func is(name string, kind int) api.Param { return api.Param{Name: name, Kind: kind, Len: 1} }

// reals are real parameters of those names.
func reals(names ...string) []api.Param {
	var all []api.Param
	for _, name := range names {
		all = append(all, is(name, kindReal))
	}
	return all
}

// example is the signature of the chapter's examples.
func example() []api.Param {
	return []api.Param{is("w", kindReal), is("b", kindReal), is("z", kindComplex)}
}

// brief is a text, or the beginning of a long one.
func brief(s string) string {
	if len(s) > 200 {
		return s[:200] + ".."
	}
	return s
}

// dump shows a tree with all that it holds.
func dump(n api.Node) string {
	var b strings.Builder
	var write func(api.Node)
	write = func(n api.Node) {
		b.WriteString("{" + strconv.Itoa(n.Kind) + " " + strconv.Quote(n.Name) + " " + strconv.Itoa(int(n.Num)) + " " + strconv.Itoa(n.Int) + " " + strconv.Quote(n.Key) + " @" + strconv.Itoa(n.At))
		for _, a := range n.Args {
			write(a)
		}
		b.WriteString("}")
	}
	write(n)
	return b.String()
}

// dumpList shows a signature with all that it holds.
func dumpList(list []api.Param) string {
	var b strings.Builder
	for _, p := range list {
		b.WriteString("{" + strconv.Quote(p.Name) + " " + strconv.Itoa(p.Kind) + " " + strconv.Itoa(p.Len) + "}")
	}
	return b.String()
}

// holdMatch: what Match answers.
func holdMatch(t *testing.T, glob, name string, want bool) {
	t.Helper()
	if Match(glob, name) != want {
		t.Errorf("Match(%q, %q) is not %t", brief(glob), brief(name), want)
	}
}

// holdSet: a mask, and the places of the parameters that it means.
func holdSet(t *testing.T, n api.Node, list []api.Param, want ...int) {
	t.Helper()
	if places, e, at := Set(n, list); !slices.Equal(places, want) || e != api.OK || at != 0 {
		t.Errorf("Set of %s, %s: %v, %d, %d, not %v", brief(dump(n)), brief(dumpList(list)), places, e, at, want)
	}
}

// holdFault: a tree that is no mask of the list, the error and its place; and no parameters beside it.
func holdFault(t *testing.T, n api.Node, list []api.Param, want api.Errno, place int) {
	t.Helper()
	if places, e, at := Set(n, list); len(places) != 0 || e != want || at != place {
		t.Errorf("Set of %s, %s: %v, %d, %d, not %d at %d", brief(dump(n)), brief(dumpList(list)), places, e, at, want, place)
	}
}

// TestExamples: M1 and M2, the chapter's examples.
func TestExamples(t *testing.T) {
	holdMatch(t, "w*", "w", true)
	holdMatch(t, "*", "", true)
	holdMatch(t, "a?c", "abc", true)
	holdMatch(t, "w", "w1", false)
	holdMatch(t, "?", "", false)
	holdSet(t, glob("?"), example(), 0, 1, 2)
	holdSet(t, call("not", glob("b")), example(), 0, 2)
	holdSet(t, call("and", call("real"), call("not", glob("w"))), example(), 1)
	holdFault(t, placed(7, glob("x*")), example(), 111, 7)
	holdFault(t, placed(7, call("not")), example(), 110, 7)
}
