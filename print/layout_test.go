package print

import (
	"slices"
	"strings"
	"testing"

	"lathe/api"
)

// holdTurn: at that width the tree has the first lines, one byte narrower the others.
func holdTurn(t *testing.T, n api.Node, width int, wide, narrow []string) {
	t.Helper()
	holdPretty(t, n, width, wide...)
	holdPretty(t, n, width-1, narrow...)
}

// TestCallWithNothingBehind: PT2, a root call on a line just as wide as it needs, and one byte less.
func TestCallWithNothingBehind(t *testing.T) {
	holdTurn(t, call("f", word("x")), 4, []string{"f(x)"}, []string{"f(", "  x", ")"})
	holdTurn(t, example(), 29, []string{"chain(scale(0.5), identity())"}, []string{"chain(", "  scale(0.5),", "  identity()", ")"})
	holdTurn(t, call("f", call("g", whole(1), whole(2))), 10, []string{"f(g(1, 2))"}, []string{"f(", "  g(1, 2)", ")"})
	holdTurn(t, call("f", call("g", whole(1), whole(2))), 9, []string{"f(", "  g(1, 2)", ")"}, []string{"f(", "  g(", "    1,", "    2", "  )", ")"})
}

// TestCallWithACommaBehind: PT2, the comma counts, and the indent; a last argument has none.
func TestCallWithACommaBehind(t *testing.T) {
	first := call("f", call("g", whole(1)), word("y_y_y_y_y"))
	holdTurn(t, first, 7, []string{"f(", "  g(1),", "  y_y_y_y_y", ")"}, []string{"f(", "  g(", "    1", "  ),", "  y_y_y_y_y", ")"})
	last := call("f", word("y_y_y_y_y"), call("g", whole(1)))
	holdTurn(t, last, 6, []string{"f(", "  y_y_y_y_y,", "  g(1)", ")"}, []string{"f(", "  y_y_y_y_y,", "  g(", "    1", "  )", ")"})
	both := call("f", call("g", whole(1)), call("g", whole(1)))
	holdTurn(t, both, 7, []string{"f(", "  g(1),", "  g(1)", ")"}, []string{"f(", "  g(", "    1", "  ),", "  g(1)", ")"})
	holdTurn(t, both, 6, []string{"f(", "  g(", "    1", "  ),", "  g(1)", ")"}, []string{"f(", "  g(", "    1", "  ),", "  g(", "    1", "  )", ")"})
}

// TestLetOnOneLine: PT2, a let's value stands behind it, if the line with the semicolon is not too long.
func TestLetOnOneLine(t *testing.T) {
	holdTurn(t, let("a", number(0x3f000000), call("f")), 12, []string{"let a = 0.5;", "f()"}, []string{"let a =", "  0.5;", "f()"})
	holdTurn(t, let("rate", quoted("w*"), call("f")), 16, []string{`let rate = "w*";`, "f()"}, []string{"let rate =", `  "w*";`, "f()"})
	holdTurn(t, let("a", call("g"), call("f")), 12, []string{"let a = g();", "f()"}, []string{"let a =", "  g();", "f()"})
	holdTurn(t, let("a", call("gg", whole(1), whole(2)), call("f")), 17, []string{"let a = gg(1, 2);", "f()"}, []string{"let a =", "  gg(1, 2);", "f()"})
}

// TestCallWithASemicolonBehind: PT2, a let's value on lines of its own: the semicolon counts, and stands behind the value's end.
func TestCallWithASemicolonBehind(t *testing.T) {
	n := let("a", call("gg", whole(1), whole(2)), call("f"))
	holdTurn(t, n, 11, []string{"let a =", "  gg(1, 2);", "f()"}, []string{"let a =", "  gg(", "    1,", "    2", "  );", "f()"})
	deep := let("a", call("g", call("h", whole(1)), whole(2)), call("f"))
	holdTurn(t, deep, 13, []string{"let a =", "  g(h(1), 2);", "f()"}, []string{"let a =", "  g(", "    h(1),", "    2", "  );", "f()"})
	holdTurn(t, deep, 9, []string{"let a =", "  g(", "    h(1),", "    2", "  );", "f()"}, []string{"let a =", "  g(", "    h(", "      1", "    ),", "    2", "  );", "f()"})
	keys := let("a", call("g", keyed("k", call("h", keyed("j", whole(1)))), keyed("i", whole(2))), call("f"))
	holdTurn(t, keys, 13, []string{"let a =", "  g(", "    k=h(j=1),", "    i=2", "  );", "f()"}, []string{"let a =", "  g(", "    k=h(", "      j=1", "    ),", "    i=2", "  );", "f()"})
}

// TestRestAtTheBeginning: PT2, the rest of a let stands at the indent 0, whatever the value took, and nothing stands behind it.
func TestRestAtTheBeginning(t *testing.T) {
	n := let("a", call("g", whole(1), whole(2)), let("b", word("a"), call("f", word("a"), word("b"))))
	holdPretty(t, n, 1, "let a =", "  g(", "    1,", "    2", "  );", "let b =", "  a;", "f(", "  a,", "  b", ")")
	holdTurn(t, n, 7, []string{"let a =", "  g(", "    1,", "    2", "  );", "let b =", "  a;", "f(a, b)"}, []string{"let a =", "  g(", "    1,", "    2", "  );", "let b =", "  a;", "f(", "  a,", "  b", ")"})
	holdTurn(t, n, 10, []string{"let a =", "  g(1, 2);", "let b = a;", "f(a, b)"}, []string{"let a =", "  g(", "    1,", "    2", "  );", "let b =", "  a;", "f(a, b)"})
	holdTurn(t, n, 16, []string{"let a = g(1, 2);", "let b = a;", "f(a, b)"}, []string{"let a =", "  g(1, 2);", "let b = a;", "f(a, b)"})
	var lines []string
	rest := call("f")
	for range maxDepth - 1 {
		rest = let("a", whole(1), rest)
		lines = append(lines, "let a =", "  1;")
	}
	holdPretty(t, rest, 9, append(lines, "f()")...)
}

// TestKeysOnLines: PT2, a Key stands ahead of a call's name where that has a line of its own, and counts; the closing line has none.
func TestKeysOnLines(t *testing.T) {
	n := call("f", keyed("key", call("g", keyed("k", whole(1)), keyed("l", call("h")))), keyed("m", word("x")))
	holdTurn(t, n, 25, []string{"f(key=g(k=1, l=h()), m=x)"}, []string{"f(", "  key=g(k=1, l=h()),", "  m=x", ")"})
	holdTurn(t, n, 20, []string{"f(", "  key=g(k=1, l=h()),", "  m=x", ")"}, []string{"f(", "  key=g(", "    k=1,", "    l=h()", "  ),", "  m=x", ")"})
	last := call("f", keyed("key", call("g", whole(1))))
	holdTurn(t, last, 10, []string{"f(", "  key=g(1)", ")"}, []string{"f(", "  key=g(", "    1", "  )", ")"})
}

// TestDeepIndents: PT2, each call in a call stands two further in.
func TestDeepIndents(t *testing.T) {
	n := nest(maxDepth-1, word("x"))
	var split []string
	for i := range maxDepth - 1 {
		split = append(split, strings.Repeat(" ", 2*i)+"f(")
	}
	inner := append(slices.Clone(split[:maxDepth-2]), strings.Repeat(" ", 124)+"f(x)")
	split = append(split, strings.Repeat(" ", 126)+"x")
	for i := maxDepth - 2; i >= 0; i-- {
		end := strings.Repeat(" ", 2*i) + ")"
		split = append(split, end)
		if i < maxDepth-2 {
			inner = append(inner, end)
		}
	}
	holdPretty(t, n, 1, split...)
	holdTurn(t, n, 128, inner, split)
}

// TestNoArguments: PT2, what has no arguments is never split.
func TestNoArguments(t *testing.T) {
	holdPretty(t, call("identity"), 1, "identity()")
	holdPretty(t, call("chain", call("identity"), call("identity")), 1, "chain(", "  identity(),", "  identity()", ")")
	empty := api.Node{Kind: 1, Name: "identity", Args: []api.Node{}}
	holdPretty(t, empty, 1, "identity()")
	holdPrint(t, empty, "identity()")
}
