package print

import (
	"strings"
	"testing"

	"lathe/api"
	"lathe/parse"
	"lathe/tree"
)

// tuned is a tree around a list of texts, as many and as long as make it so many bytes by that measure.
func tuned(length int, around func(...api.Node) api.Node, measure func(api.Node) int) api.Node {
	short := quoted(strings.Repeat("q", maxName-4))
	least := measure(around(many(100, short)...))
	each := (measure(around(many(200, short)...)) - least) / 100
	list := many(100+(length-least)/each, short)
	missing := (length - least) % each
	for i := range list {
		more := min(missing, 4)
		list[i].Name += strings.Repeat("Q", more)
		missing -= more
	}
	return around(list...)
}

// onOneLine is how long Print's text is.
func onOneLine(n api.Node) int { return len(told(n)) }

// onLines is how long Pretty's text is at a width.
func onLines(width int) func(api.Node) int {
	return func(n api.Node) int { return len(strings.Join(laid(n, width, 0, ""), "\n")) + 1 }
}

// sized is a call whose text has that many bytes.
func sized(length int) api.Node {
	return tuned(length, flat, onOneLine)
}

func flat(list ...api.Node) api.Node { return call("f", list...) }

// shapes are trees around lists: flat, deep, in a let's value and in its rest.
func shapes() []func(...api.Node) api.Node {
	return []func(...api.Node) api.Node{
		flat,
		func(list ...api.Node) api.Node { return nest(maxDepth-2, call("g", list...)) },
		func(list ...api.Node) api.Node { return call("f", keyed("k", call("g", list...)), whole(-1)) },
		func(list ...api.Node) api.Node { return let("a", call("g", list...), call("f")) },
		func(list ...api.Node) api.Node { return let("a", whole(1), let("b", word("a"), call("g", list...))) },
	}
}

// holdLong: the answer has so many bytes, and parse reads the tree in it.
func holdLong(t *testing.T, n api.Node, s string, e api.Errno, want int) {
	t.Helper()
	if len(s) != want || e != 0 {
		t.Errorf("%s has %d bytes, %d, want %d", brief(dump(n)), len(s), e, want)
	}
	if again, e, at := parse.Parse(s); e != 0 || !tree.Equal(n, again) {
		t.Errorf("Parse(%q) = %s, %d at %d", brief(s), brief(dump(again)), e, at)
	}
}

// holdTooLong: the answer is ErrLong and no text.
func holdTooLong(t *testing.T, n api.Node, s string, e api.Errno) {
	t.Helper()
	if s != "" || e != 2 {
		t.Errorf("%s is %q, %d", brief(dump(n)), brief(s), e)
	}
	if e := tree.Check(n); e != 0 {
		t.Errorf("Check(%s) = %d", brief(dump(n)), e)
	}
}

// TestLongestText: PT1, a text of MaxSource bytes is told, and none of more.
func TestLongestText(t *testing.T) {
	for _, shape := range shapes() {
		for _, length := range []int{maxSource - 1, maxSource} {
			n := tuned(length, shape, onOneLine)
			s, e := Print(n)
			holdLong(t, n, s, e, length)
		}
		for _, length := range []int{maxSource + 1, maxSource + 2, 2 * maxSource} {
			n := tuned(length, shape, onOneLine)
			s, e := Print(n)
			holdTooLong(t, n, s, e)
		}
	}
}

// TestLongestLines: PT2, the length is that of what Pretty tells: its blanks and its lines' ends count.
func TestLongestLines(t *testing.T) {
	for _, width := range []int{1, 20, maxInt} {
		for _, shape := range shapes() {
			for _, length := range []int{maxSource - 1, maxSource} {
				n := tuned(length, shape, onLines(width))
				s, e := Pretty(n, width)
				holdLong(t, n, s, e, length)
			}
			for _, length := range []int{maxSource + 1, maxSource + 2, 2 * maxSource} {
				n := tuned(length, shape, onLines(width))
				s, e := Pretty(n, width)
				holdTooLong(t, n, s, e)
			}
		}
	}
}

// TestLineEndsCount: PT1, PT2, a text of MaxSource bytes is one for Print, and one too many for Pretty on one line.
func TestLineEndsCount(t *testing.T) {
	n := sized(maxSource)
	if s, e := Print(n); len(s) != maxSource || e != 0 {
		t.Errorf("Print tells %d bytes, %d", len(s), e)
	}
	s, e := Pretty(n, maxInt)
	holdTooLong(t, n, s, e)
}

// TestBlanksCount: PT2, a tree whose text is well short enough, but not its lines, for they stand far in.
func TestBlanksCount(t *testing.T) {
	n := nest(maxDepth-2, call("g", many(1000, word("x"))...))
	s, e := Print(n)
	holdLong(t, n, s, e, len(told(n)))
	s, e = Pretty(n, maxInt)
	holdLong(t, n, s, e, len(told(n))+1)
	s, e = Pretty(n, 20)
	holdTooLong(t, n, s, e)
}

// TestGreatestTree: PT1, PT2, rule 1, the longest names and Keys in as many nodes as there may be, as deep as they may be.
func TestGreatestTree(t *testing.T) {
	name := strings.Repeat("n", maxName)
	inner := call(name, many(maxNodes-maxDepth+1, keyed(name, quoted(name)))...)
	for range maxDepth - 2 {
		inner = call(name, keyed(name, inner))
	}
	if tree.Depth(inner) != maxDepth || tree.Count(inner) != maxNodes {
		t.Fatalf("depth %d, %d nodes", tree.Depth(inner), tree.Count(inner))
	}
	holdRefused(t, inner, api.ErrLong)
	flat := call("f", many(maxNodes-1, number(0x3f000000))...)
	s, e := Print(flat)
	holdLong(t, flat, s, e, 5*(maxNodes-1)+1)
	s, e = Pretty(flat, 1)
	holdLong(t, flat, s, e, 7*(maxNodes-1)+4)
}
