package print

import (
	"strings"
	"testing"

	"lathe/api"
	"lathe/lex"
	"lathe/parse"
	"lathe/samples"
	"lathe/tree"
)

// A grower makes trees from all over, the same ones in each run.
type grower struct {
	samples.Source
	left int // how many nodes may still be made
}

func (g *grower) upTo(n int) int { return int(g.Next()>>8) % n }

func (g *grower) name() string {
	names := []string{"a", "f", "let", "true", "false", "scale_by_adam", "_", "x9", "e5", "_1", strings.Repeat("n", maxName)}
	return names[g.upTo(len(names))]
}

// program is a tree of lets and a call.
func (g *grower) program(lets, depth int) api.Node {
	if lets == 0 {
		return g.call(depth)
	}
	name := g.name()
	if name == "true" || name == "false" {
		name = "free"
	}
	return let(name, g.value(depth-1), g.program(lets-1, depth-1))
}

// call has few arguments; none, if it is as deep as it may be or has used up its nodes.
func (g *grower) call(depth int) api.Node {
	n := call(g.name())
	n.At = g.UpTo(maxSource)
	for range g.upTo(5) {
		if depth == 1 || g.left < 1 {
			break
		}
		g.left--
		value := g.value(depth - 1)
		if g.upTo(2) == 0 {
			value.Key = g.name()
		}
		n.Args = append(n.Args, value)
	}
	return n
}

// value is one of each kind, most of them calls.
func (g *grower) value(depth int) api.Node {
	switch g.upTo(9) {
	case 0:
		for {
			if a := g.Number(); a&0x7fffffff != 0x7f800000 {
				return number(a)
			}
		}
	case 1:
		return whole([]int{0, 7, maxCount, -maxCount, g.UpTo(maxCount / 2)}[g.upTo(5)])
	case 2:
		return word(g.name())
	case 3:
		return quoted([]string{"", "w*", "#", "let a = 1;", strings.Repeat("~", maxName)}[g.upTo(5)])
	case 4:
		return number(samples.Edges()[g.upTo(22)]) // all behind are infinite or NaNs
	}
	return g.call(depth)
}

// programs gives trees of all shapes, each within the limits.
func programs(yield func(*grower, api.Node)) {
	g := &grower{Source: 9}
	for i := range 2000 {
		g.left = 60
		lets := max(0, g.upTo(12)-6)
		if i%100 == 0 {
			g.left, lets = 400, g.upTo(maxDepth-1)
		}
		yield(g, g.program(lets, lets+2+g.upTo(maxDepth-lets-1)))
	}
}

// holdRead: PT3, parse reads the text as the tree.
func holdRead(t *testing.T, n api.Node, s string, e api.Errno) {
	t.Helper()
	again, wrong, at := parse.Parse(s)
	if e != 0 || wrong != 0 || at != 0 || !tree.Equal(n, again) {
		t.Errorf("%s is %q, %d; Parse of it is %s, %d, %d", brief(dump(n)), brief(s), e, brief(dump(again)), wrong, at)
	}
}

// holdLaws: the tree's text and its lines at that width are those of the chapter's words, and mean the tree.
func holdLaws(t *testing.T, n api.Node, width int) {
	t.Helper()
	s, e := Pretty(n, width)
	if s != strings.Join(laid(n, width, 0, ""), "\n")+"\n" || e != 0 {
		t.Errorf("Pretty(%s, %d) = %q, %d, want %q", brief(dump(n)), width, brief(s), e, laid(n, width, 0, ""))
	}
	holdRead(t, n, s, e)
	if n.Kind == 6 || n.Kind == 1 {
		holdSameTokens(t, n, s)
	}
}

// holdSameTokens: PT2, lines are but blanks and ends of lines between the text's tokens.
func holdSameTokens(t *testing.T, n api.Node, lines string) {
	t.Helper()
	text, _ := Print(n)
	first, e, _ := lex.Scan(text)
	second, f, _ := lex.Scan(lines)
	if e != 0 || f != 0 || lex.Show(first) != lex.Show(second) {
		t.Errorf("%q and %q have not the same tokens", brief(text), brief(lines))
	}
}

// TestParseOfPrint: PT1, PT2, PT3, P11, trees from all over, at many widths.
func TestParseOfPrint(t *testing.T) {
	deepest, most, widths := 0, 0, 0
	programs(func(g *grower, n api.Node) {
		if t.Failed() {
			return
		}
		deepest, most = max(deepest, tree.Depth(n)), max(most, tree.Count(n))
		holdPrint(t, n, told(n))
		s, e := Print(n)
		holdRead(t, n, s, e)
		for _, width := range []int{1, 1 + g.upTo(20), 20 + g.upTo(100), 100 + g.upTo(200), len(s) - 1, len(s), len(s) + 1, maxInt} {
			holdLaws(t, n, max(width, 1))
			widths++
		}
	})
	if deepest < 60 || most < 300 || widths < 1000 {
		t.Error("the deepest tree has the depth", deepest, "and the greatest", most, "nodes;", widths, "widths")
	}
}

// TestEveryNumber: PT1, PT3, numbers from all over as arguments, of both signs.
func TestEveryNumber(t *testing.T) {
	s := samples.Source(99)
	for range 20000 {
		a := s.Next()
		if a&0x7f800000 == 0x7f800000 {
			continue
		}
		for _, n := range []api.Node{call("f", number(a)), call("f", keyed("k", whole(s.UpTo(maxCount/2)))), let("a", number(a), call("f"))} {
			holdPrint(t, n, told(n))
			text, e := Print(n)
			holdRead(t, n, text, e)
		}
	}
}
