package parse

import (
	"math/big"
	"slices"
	"strings"
	"testing"

	"lathe/api"
)

// A sign of the grammar: what a rule or a token is called, and the depth of the node that is made of it; a token that begins no node has none.
type sign struct {
	name  string
	depth int
}

// A way through the grammar: what is still to come, the nearest last; the nodes so far, and the first fault that is not one of syntax.
type way struct {
	signs []sign
	nodes int
	fault api.Errno
	at    int
}

// rules are all that a sign can be in its place; nil, if it is a token's.
func rules(s sign) [][]sign {
	d := s.depth
	inner := d + 1
	switch s.name {
	case "program":
		return [][]sign{{{"LET", d}, {"FREE", 0}, {"=", 0}, {"value", inner}, {";", 0}, {"program", inner}}, {{"call", d}}}
	case "call":
		return [][]sign{{{"NAME", d}, {"(", 0}, {")", 0}}, {{"NAME", d}, {"(", 0}, {"argument", inner}, {"more", inner}, {")", 0}}}
	case "more":
		return [][]sign{{}, {{",", 0}, {"argument", d}, {"more", d}}}
	case "argument":
		return [][]sign{{{"value", d}}, {{"NAME", 0}, {"=", 0}, {"value", d}}}
	case "value":
		return [][]sign{{{"call", d}}, {{"NAME", d}}, {{"TEXT", d}}, {{"NUMBER", d}}, {{"WHOLE", d}}, {{"-", d}, {"NUMBER", 0}}, {{"-", d}, {"WHOLE", 0}}}
	}
	return nil
}

// is tells whether a token's text is a sign's.
func is(name, token string) bool {
	switch first := (token + "$")[0]; name {
	case "LET":
		return token == "let"
	case "FREE":
		return is("NAME", token) && token != "true" && token != "false"
	case "NAME":
		return first >= 'a' && first <= 'z' || first == '_'
	case "TEXT":
		return first == '"'
	case "NUMBER":
		return first >= '0' && first <= '9' && strings.ContainsAny(token, ".eE")
	case "WHOLE":
		return first >= '0' && first <= '9' && !strings.ContainsAny(token, ".eE")
	}
	return token == name
}

// isGreat tells by exact numbers whether a token is beyond what it may be.
func isGreat(name, token string) bool {
	limit := big.NewInt(maxCount + 1)
	switch name {
	case "NUMBER":
		limit.Lsh(big.NewInt(1<<25-1), 103)
	case "WHOLE":
	default:
		return false
	}
	value, ok := new(big.Rat).SetString(token)
	return ok && value.Cmp(new(big.Rat).SetInt(limit)) >= 0
}

// unfold goes on by the rules till each way begins with a token's sign.
func unfold(w way) []way {
	last := len(w.signs) - 1
	if last < 0 {
		return []way{w}
	}
	choices := rules(w.signs[last])
	if choices == nil {
		return []way{w}
	}
	var all []way
	for _, choice := range choices {
		next := w
		next.signs = slices.Clone(w.signs[:last])
		for _, s := range slices.Backward(choice) {
			next.signs = append(next.signs, s)
		}
		all = append(all, unfold(next)...)
	}
	return all
}

// pass goes on behind a token, if it is the one that the way needs.
func (w way) pass(token string, at int) (way, bool) {
	last := len(w.signs) - 1
	s := w.signs[last]
	if !is(s.name, token) {
		return way{}, false
	}
	w.signs = w.signs[:last]
	if s.depth > 0 {
		w.nodes++
	}
	switch {
	case w.fault != 0:
	case s.depth > maxDepth:
		w.fault, w.at = api.ErrDeep, at
	case s.depth > 0 && w.nodes == maxNodes+1:
		w.fault, w.at = api.ErrMany, at
	case isGreat(s.name, token):
		w.fault, w.at = api.ErrGreat, at
	}
	return w, true
}

// advance is where all ways come to behind a token.
func advance(ways []way, token string, at int) []way {
	var all []way
	for _, w := range ways {
		for _, u := range unfold(w) {
			if next, ok := u.pass(token, at); ok {
				all = append(all, next)
			}
		}
	}
	return all
}

// start is the only way at the beginning.
func start() []way {
	return []way{{signs: []sign{{"END", 0}, {"program", 1}}}}
}

// judge is what Parse must tell of tokens with a blank between, by going all ways through the grammar at once.
func judge(ways []way, tokens []string, at int) (api.Errno, int) {
	for _, token := range append(slices.Clone(tokens), "END") {
		next := advance(ways, token, at)
		if len(next) == 0 {
			return blame(ways, at)
		}
		ways = next
		at += len(token) + 1
	}
	return ways[0].fault, ways[0].at
}

// blame tells a token that ends all ways, unless one of them had a fault ahead of it: a name that the token behind does not make a key is a node.
func blame(ways []way, at int) (api.Errno, int) {
	for _, w := range ways {
		if w.fault != 0 {
			return w.fault, w.at
		}
	}
	return api.ErrSyntax, at
}

// holdJudged: PR1, PR2, the answer is this one; and if it is a tree, its tokens are those of the text, each node's place that of its first one.
func holdJudged(t *testing.T, tokens []string, want api.Errno, at int) {
	t.Helper()
	text := strings.Join(tokens, " ")
	if want != 0 {
		holdRefused(t, text, want, min(at, len(text)))
		return
	}
	holdTaken(t, text)
	n, _, _ := Parse(text)
	if again, placed := written(n, blank); again != text || dump(placed) != dump(n) {
		t.Errorf("Parse(%q) = %s, which is %s, %q", brief(text), brief(dump(n)), brief(dump(placed)), brief(again))
	}
}

// holdOracle: PR1, PR2, by all ways through the grammar.
func holdOracle(t *testing.T, tokens []string) {
	t.Helper()
	want, at := judge(start(), tokens, 0)
	holdJudged(t, tokens, want, at)
}
