package parse

import (
	"slices"
	"strings"
	"testing"

	"lathe/api"
	"lathe/lex"
	"lathe/samples"
	"lathe/tree"
)

// A grower makes trees from all over, the same ones in each run.
type grower struct {
	samples.Source
	left int // how many nodes may still be made
}

func (g *grower) upTo(n int) int { return int(g.Next()>>8) % n }

func (g *grower) name() string {
	names := []string{"a", "f", "let", "true", "false", "scale_by_adam", "_", "x9", "e5", "_1", strings.Repeat("n", maxName)}
	return names[g.upTo(len(names))]
}

// program is a tree of lets and a call.
func (g *grower) program(lets, depth int) api.Node {
	if lets == 0 {
		return g.call(depth)
	}
	name := g.name()
	if name == "true" || name == "false" {
		name = "free"
	}
	return let(0, name, g.value(depth-1), g.program(lets-1, depth-1))
}

// call has few arguments; none, if it is as deep as it may be or has used up its nodes.
func (g *grower) call(depth int) api.Node {
	n := call(0, g.name())
	for range g.upTo(5) {
		if depth == 1 || g.left < 1 {
			break
		}
		g.left--
		value := g.value(depth - 1)
		if g.upTo(2) == 0 {
			value.Key = g.name()
		}
		n.Args = append(n.Args, value)
	}
	return n
}

// value is one of each kind, most of them calls.
func (g *grower) value(depth int) api.Node {
	switch g.upTo(9) {
	case 0:
		for {
			if a := g.Number(); a&0x7fffffff != 0x7f800000 {
				return number(0, a)
			}
		}
	case 1:
		return whole(0, []int{0, 7, maxCount, -maxCount, g.UpTo(maxCount / 2)}[g.upTo(5)])
	case 2:
		return word(0, g.name())
	case 3:
		return quoted(0, []string{"", "w*", "#", "let a = 1;", strings.Repeat("~", maxName)}[g.upTo(5)])
	case 4:
		return number(0, samples.Edges()[g.upTo(22)]) // all behind are infinite or NaNs
	}
	return g.call(depth)
}

// loose is a gap of blanks and comments.
func (g *grower) loose(needed bool) string {
	gaps := []string{"", " ", "\t", "\n", "\r", "  \n", "# f(1;\n", "#\n#\"$\n", " #\xff\r\n\t"}
	gap := gaps[g.upTo(len(gaps))]
	if needed && gap == "" {
		gap = " "
	}
	return gap
}

// programs gives trees of all shapes, each within the limits.
func programs(yield func(*grower, api.Node)) {
	g := &grower{Source: 8}
	for i := range 3000 {
		g.left = 60
		lets := max(0, g.upTo(12)-6)
		if i%100 == 0 {
			g.left, lets = 600, g.upTo(maxDepth-1)
		}
		yield(g, g.program(lets, lets+2+g.upTo(maxDepth-lets-1)))
	}
}

// TestParseOfWritten: PR1, PR3, the tree of a written tree is this one, each node at its place, whatever stands between the tokens.
func TestParseOfWritten(t *testing.T) {
	deepest, most := 0, 0
	programs(func(g *grower, n api.Node) {
		if t.Failed() {
			return
		}
		deepest, most = max(deepest, tree.Depth(n)), max(most, tree.Count(n))
		for _, gap := range []func(bool) string{tight, blank, g.loose} {
			text, want := written(n, gap)
			holdTree(t, text, want)
		}
	})
	if deepest < maxDepth || most < 500 {
		t.Error("the deepest tree has the depth", deepest, "and the greatest", most, "nodes")
	}
}

// TestBlanksAndComments: PR3, they change nothing but places; texts with the same tokens have trees that are Equal.
func TestBlanksAndComments(t *testing.T) {
	programs(func(g *grower, n api.Node) {
		if t.Failed() {
			return
		}
		text, _ := written(n, tight)
		first, e, _ := Parse(text)
		if e != 0 || !tree.Equal(first, n) {
			t.Fatalf("Parse(%q) = %s, %d", brief(text), brief(dump(first)), e)
		}
		list, _, _ := lex.Scan(text)
		other, _ := written(n, g.loose)
		for _, again := range []string{lex.Show(list), other, "# c\n " + other + "\t#"} {
			second, e, _ := Parse(again)
			if e != 0 || !tree.Equal(first, second) || dump(tree.Strip(first)) != dump(tree.Strip(second)) {
				t.Errorf("Parse(%q) = %s, %d, Parse(%q) = %s", brief(again), brief(dump(second)), e, brief(text), brief(dump(first)))
			}
		}
	})
}

// TestBlanksInWrongTexts: PR1, PR3, blanks and comments ahead of any token move an error's place by as much, and change it no other way.
func TestBlanksInWrongTexts(t *testing.T) {
	for _, text := range []string{"f ( 1 , )", "f ( - x )", "let true = 1 ; f ( )", "f ( a = b = 1 )", "f ( 1e39 )", "f ( - 2147483648 )", "f ( ) g", "let a = 1", nest(maxDepth, "a"), "f(" + strings.Repeat("1,", maxNodes) + "1)"} {
		_, e, at := Parse(text)
		list, _, _ := lex.Scan(text)
		fault := slices.IndexFunc(list, func(token api.Token) bool { return token.At == at })
		if e == 0 || fault < 0 {
			t.Fatalf("Parse(%q) tells %d at %d", brief(text), e, at)
		}
		for i := 0; i < len(list); i += 1 + len(list)/50 {
			for _, gap := range []string{" ", "\t\n\r ", "#\n", " # f(1e39;$\n"} {
				want := at
				if i <= fault {
					want += len(gap)
				}
				holdRefused(t, text[:list[i].At]+gap+text[list[i].At:], e, want)
			}
		}
	}
}

// TestAnyTokens: PR1, PR2, tokens from all over, in beginnings of programs and behind them.
func TestAnyTokens(t *testing.T) {
	s := samples.Source(88)
	pieces := []string{"let", "true", "a", "f", "7", "0.5", "1e39", "2147483648", `"w"`, "(", "(", "(", ")", ")", ",", ",", "=", "-", ";"}
	for range 20000 {
		ways, tokens, at := start(), []string(nil), 0
		for len(tokens) < 60 {
			piece := pieces[int(s.Next()>>8)%len(pieces)]
			next := advance(ways, piece, at)
			if len(next) == 0 && s.Next()>>8%32 != 0 {
				if ways[0].signs[0].name == "END" && len(ways) == 1 && len(ways[0].signs) == 1 {
					break
				}
				continue
			}
			tokens, at = append(tokens, piece), at+len(piece)+1
			if len(next) == 0 {
				break
			}
			ways = next
		}
		holdOracle(t, tokens)
		if t.Failed() {
			return
		}
	}
}

// TestAnyBytes: rule 1, each text is taken or refused at a place within it, and no answer but these is told.
func TestAnyBytes(t *testing.T) {
	s := samples.Source(888)
	for range 20000 {
		text := []byte(program)
		for range 1 + s.Next()>>8%4 {
			text[int(s.Next()>>8)%len(text)] = byte(s.Next() >> 8)
		}
		from := int(s.Next()>>8) % len(text)
		holdSound(t, string(text))
		holdSound(t, string(text[from:]))
		holdSound(t, string(text[:from]))
	}
}

// holdSound: the answer is a tree that Check takes, or an error that may be, at the place of a byte or at the end.
func holdSound(t *testing.T, text string) {
	t.Helper()
	errors := []api.Errno{api.ErrLong, api.ErrByte, api.ErrText, api.ErrNumber, api.ErrSyntax, api.ErrDeep, api.ErrMany, api.ErrGreat}
	n, e, at := Parse(text)
	_, scanned, place := lex.Scan(text)
	switch {
	case e == 0 && (at != 0 || scanned != 0 || tree.Check(n) != 0):
		t.Errorf("Parse(%q) = %s, Check %d", brief(text), brief(dump(n)), tree.Check(n))
	case e != 0 && (!slices.Contains(errors, e) || at < 0 || at > len(text) || dump(n) != dump(api.Node{})):
		t.Errorf("Parse(%q) = %s, %d, %d", brief(text), brief(dump(n)), e, at)
	case scanned != 0 && (e != scanned || at != place):
		t.Errorf("Parse(%q) tells %d at %d, Scan %d at %d", brief(text), e, at, scanned, place)
	}
}
