package print

import (
	"strconv"
	"strings"
	"testing"

	"lathe/api"
	"lathe/tree"
)

// The limits, as the document has them.
const (
	maxSource = 65536
	maxDepth  = 64
	maxNodes  = 4096
	maxName   = 64
	maxCount  = 2147483647
	maxInt    = 1<<63 - 1
)

func call(name string, args ...api.Node) api.Node {
	return api.Node{Kind: 1, Name: name, Args: args}
}

func number(a api.F) api.Node     { return api.Node{Kind: 2, Num: a} }
func whole(n int) api.Node        { return api.Node{Kind: 3, Int: n} }
func word(name string) api.Node   { return api.Node{Kind: 4, Name: name} }
func quoted(text string) api.Node { return api.Node{Kind: 5, Name: text} }

func let(name string, value, rest api.Node) api.Node {
	return api.Node{Kind: 6, Name: name, Args: []api.Node{value, rest}}
}

func keyed(key string, n api.Node) api.Node {
	n.Key = key
	return n
}

// nest is a call within a call within a call, so many around the innermost node.
func nest(around int, inner api.Node) api.Node {
	for range around {
		inner = call("f", inner)
	}
	return inner
}

// many is a list of nodes that are alike.
func many(count int, n api.Node) []api.Node {
	list := make([]api.Node, count)
	for i := range list {
		list[i] = n
	}
	return list
}

// dump is a tree as a text that tells each part of it.
func dump(n api.Node) string {
	var out strings.Builder
	pour(&out, n)
	return out.String()
}

func pour(out *strings.Builder, n api.Node) {
	out.WriteString("{" + strconv.Itoa(n.Kind) + strconv.Quote(n.Name) + strconv.FormatUint(uint64(n.Num), 16) + "/" + strconv.Itoa(n.Int) + strconv.Quote(n.Key) + "@" + strconv.Itoa(n.At))
	for _, a := range n.Args {
		pour(out, a)
	}
	out.WriteString("}")
}

// brief is enough of a text to know it by.
func brief(text string) string {
	if len(text) > 400 {
		return text[:160] + " .. " + text[len(text)-160:]
	}
	return text
}

// holdPrint: Print tells this text.
func holdPrint(t *testing.T, n api.Node, want string) {
	t.Helper()
	if s, e := Print(n); s != want || e != 0 {
		t.Errorf("Print(%s) = %q, %d, want %q", brief(dump(n)), brief(s), e, brief(want))
	}
}

// holdPretty: Pretty tells these lines.
func holdPretty(t *testing.T, n api.Node, width int, lines ...string) {
	t.Helper()
	want := strings.Join(lines, "\n") + "\n"
	if s, e := Pretty(n, width); s != want || e != 0 {
		t.Errorf("Pretty(%s, %d) = %q, %d, want %q", brief(dump(n)), width, brief(s), e, brief(want))
	}
}

// holdRefused: both tell this error, and no text, at all widths.
func holdRefused(t *testing.T, n api.Node, want api.Errno) {
	t.Helper()
	if s, e := Print(n); s != "" || e != want {
		t.Errorf("Print(%s) = %q, %d, want %d", brief(dump(n)), brief(s), e, want)
	}
	for _, width := range []int{1, 2, 20, maxSource, maxInt} {
		if s, e := Pretty(n, width); s != "" || e != want {
			t.Errorf("Pretty(%s, %d) = %q, %d, want %d", brief(dump(n)), width, brief(s), e, want)
		}
	}
}

// example is the tree of the chapter's text, with its places.
func example() api.Node {
	scale, identity := call("scale", number(0x3f000000)), call("identity")
	scale.At, scale.Args[0].At, identity.At = 7, 13, 19
	return call("chain", scale, identity)
}

// TestExamples: PT1, PT2, the chapter's.
func TestExamples(t *testing.T) {
	holdPrint(t, example(), "chain(scale(0.5), identity())")
	holdPretty(t, example(), 20, "chain(", "  scale(0.5),", "  identity()", ")")
	holdPretty(t, example(), 40, "chain(scale(0.5), identity())")
}

// A leaf is a node without arguments, and its text.
type leaf struct {
	node api.Node
	text string
}

// leaves are of each kind but calls with arguments and lets.
func leaves() []leaf {
	return []leaf{
		{number(0), "0.0"}, {number(0x80000000), "-0.0"},
		{number(0x00000001), "1e-45"}, {number(0x80000001), "-1e-45"}, {number(0x00800000), "1.1754944e-38"},
		{number(0x7f7fffff), "3.4028235e38"}, {number(0xff7fffff), "-3.4028235e38"},
		{number(0x3f800000), "1.0"}, {number(0xbdcccccd), "-0.1"}, {number(0x3a83126f), "0.001"}, {number(0x38d1b717), "0.0001"}, {number(0x3727c5ac), "1e-5"},
		{number(0x4cbebc20), "100000000.0"}, {number(0x501502f9), "1e10"}, {number(0x40490fdb), "3.1415927"},
		{whole(0), "0"}, {whole(1), "1"}, {whole(-1), "-1"}, {whole(10), "10"}, {whole(-907), "-907"},
		{whole(maxCount), "2147483647"}, {whole(-maxCount), "-2147483647"},
		{word("a"), "a"}, {word("_"), "_"}, {word("x9_z"), "x9_z"}, {word("let"), "let"}, {word("true"), "true"}, {word("e5"), "e5"},
		{word(strings.Repeat("n", maxName)), strings.Repeat("n", maxName)},
		{quoted(""), `""`}, {quoted("w*"), `"w*"`}, {quoted(" "), `" "`}, {quoted("#~;,()="), `"#~;,()="`}, {quoted(`\n'` + "`"), `"\n'` + "`" + `"`},
		{quoted(strings.Repeat("T", maxName)), `"` + strings.Repeat("T", maxName) + `"`},
		{call("f"), "f()"}, {call("let"), "let()"}, {call("true"), "true()"},
		{call(strings.Repeat("c", maxName)), strings.Repeat("c", maxName) + "()"},
	}
}

// TestLeaves: PT1, PT2, each kind as a root, as an argument with a Key and without, as a let's value; a leaf stays on one line, however narrow this is.
func TestLeaves(t *testing.T) {
	for _, l := range leaves() {
		holdPrint(t, l.node, l.text)
		holdPrint(t, call("g", l.node), "g("+l.text+")")
		holdPrint(t, call("g", keyed("key_1", l.node)), "g(key_1="+l.text+")")
		holdPrint(t, call("g", l.node, keyed("k", l.node), l.node), "g("+l.text+", k="+l.text+", "+l.text+")")
		holdPrint(t, let("v", l.node, call("g")), "let v = "+l.text+"; g()")
		for _, width := range []int{1, len(l.text) - 1, len(l.text), maxInt} {
			holdPretty(t, l.node, max(width, 1), l.text)
		}
		holdPretty(t, call("g", l.node), 1, "g(", "  "+l.text, ")")
		holdPretty(t, call("g", keyed("key_1", l.node)), 1, "g(", "  key_1="+l.text, ")")
		holdPretty(t, let("v", l.node, call("g")), 1, "let v =", "  "+l.text+";", "g()")
		holdPretty(t, let("v", l.node, call("g")), 100, "let v = "+l.text+";", "g()")
	}
}

// TestLets: PT1, PT2, a let as a root and as a rest, with a call as its value, and a call or a let as its rest.
func TestLets(t *testing.T) {
	twice := let("a", call("h", whole(1), keyed("k", word("x"))), let("let", quoted("w"), call("let", word("a"), word("let"))))
	holdPrint(t, twice, `let a = h(1, k=x); let let = "w"; let(a, let)`)
	holdPretty(t, twice, 100, "let a = h(1, k=x);", `let let = "w";`, "let(a, let)")
	holdPretty(t, twice, 1, "let a =", "  h(", "    1,", "    k=x", "  );", "let let =", `  "w";`, "let(", "  a,", "  let", ")")
	holdPrint(t, let("a", word("a"), let("a", word("b"), let("a", word("c"), call("f")))), "let a = a; let a = b; let a = c; f()")
	holdPrint(t, let(strings.Repeat("v", maxName), whole(0), call("f")), "let "+strings.Repeat("v", maxName)+" = 0; f()")
}

// TestCalls: PT1, calls without arguments, with one and with many, in one another, with Keys.
func TestCalls(t *testing.T) {
	holdPrint(t, call("f"), "f()")
	holdPrint(t, call("f", call("f")), "f(f())")
	holdPrint(t, call("f", keyed("f", call("f", keyed("f", word("f"))))), "f(f=f(f=f))")
	holdPrint(t, call("f", many(2000, whole(-5))...), "f(-5"+strings.Repeat(", -5", 1999)+")")
	holdPrint(t, call("f", many(1000, keyed("k", call("g", call("h"), quoted(""))))...), `f(k=g(h(), "")`+strings.Repeat(`, k=g(h(), "")`, 999)+")")
	holdPrint(t, nest(maxDepth-1, word("x")), strings.Repeat("f(", maxDepth-1)+"x"+strings.Repeat(")", maxDepth-1))
	holdPrint(t, call("f", many(maxNodes-1, word("x"))...), "f(x"+strings.Repeat(", x", maxNodes-2)+")")
}

// TestPlacesMeanNothing: PT1, PT2, where the nodes stood once is not looked at.
func TestPlacesMeanNothing(t *testing.T) {
	for _, at := range []int{-maxInt - 1, -1, 5, maxInt} {
		n := let("a", whole(1), example())
		n.At, n.Args[0].At, n.Args[1].At = at, at, at
		holdPrint(t, n, "let a = 1; chain(scale(0.5), identity())")
		holdPretty(t, n, 13, "let a = 1;", "chain(", "  scale(0.5),", "  identity()", ")")
		if !tree.Equal(n, tree.Strip(n)) {
			t.Error("places are not left out of account")
		}
	}
}
