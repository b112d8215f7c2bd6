package parse

import (
	"strconv"
	"strings"
	"testing"

	"lathe/api"
	"lathe/tree"
)

// The limits, as the document has them.
const (
	maxSource = 65536
	maxDepth  = 64
	maxNodes  = 4096
	maxName   = 64
	maxCount  = 2147483647
)

func call(at int, name string, args ...api.Node) api.Node {
	return api.Node{Kind: 1, Name: name, Args: args, At: at}
}

func number(at int, a api.F) api.Node     { return api.Node{Kind: 2, Num: a, At: at} }
func whole(at, n int) api.Node            { return api.Node{Kind: 3, Int: n, At: at} }
func word(at int, name string) api.Node   { return api.Node{Kind: 4, Name: name, At: at} }
func quoted(at int, text string) api.Node { return api.Node{Kind: 5, Name: text, At: at} }

func let(at int, name string, value, rest api.Node) api.Node {
	return api.Node{Kind: 6, Name: name, Args: []api.Node{value, rest}, At: at}
}

func keyed(key string, n api.Node) api.Node {
	n.Key = key
	return n
}

// dump is a tree as a text that tells each part of it.
func dump(n api.Node) string {
	var out strings.Builder
	pour(&out, n)
	return out.String()
}

func pour(out *strings.Builder, n api.Node) {
	out.WriteString("{" + strconv.Itoa(n.Kind) + strconv.Quote(n.Name) + strconv.FormatUint(uint64(n.Num), 16) + "/" + strconv.Itoa(n.Int) + strconv.Quote(n.Key) + "@" + strconv.Itoa(n.At))
	for _, a := range n.Args {
		pour(out, a)
	}
	out.WriteString("}")
}

// brief is enough of a text to know it by.
func brief(text string) string {
	if len(text) > 400 {
		return text[:160] + " .. " + text[len(text)-160:]
	}
	return text
}

// holdTree: Parse takes the text, and tells this tree, which tree.Check takes.
func holdTree(t *testing.T, text string, want api.Node) {
	t.Helper()
	n, e, at := Parse(text)
	if e != 0 || at != 0 || dump(n) != dump(want) {
		t.Errorf("Parse(%q) = %s, %d, %d, want %s", brief(text), brief(dump(n)), e, at, brief(dump(want)))
	}
	if e := tree.Check(n); e != 0 {
		t.Errorf("Check of Parse(%q) = %d", brief(text), e)
	}
}

// holdTaken: Parse takes the text, whatever its tree is.
func holdTaken(t *testing.T, text string) {
	t.Helper()
	n, e, at := Parse(text)
	if e != 0 || at != 0 || tree.Check(n) != 0 {
		t.Errorf("Parse(%q) = %s, %d, %d, Check %d", brief(text), brief(dump(n)), e, at, tree.Check(n))
	}
}

// holdRefused: Parse refuses the text by that error, at that place, and tells the zero node.
func holdRefused(t *testing.T, text string, want api.Errno, at int) {
	t.Helper()
	n, e, place := Parse(text)
	if e != want || place != at || dump(n) != dump(api.Node{}) {
		t.Errorf("Parse(%q) = %s, %d, %d, want %d at %d", brief(text), brief(dump(n)), e, place, want, at)
	}
}

// TestExamples: PR1, the chapter's.
func TestExamples(t *testing.T) {
	holdTree(t, "chain(clip(1.0), scale(-0.1))", call(0, "chain", call(6, "clip", number(11, 0x3f800000)), call(17, "scale", number(23, 0xbdcccccd))))
	holdTree(t, "adam(lr=0.1, nesterov=true)", call(0, "adam", keyed("lr", number(8, 0x3dcccccd)), keyed("nesterov", word(22, "true"))))
	holdTree(t, "let a = 0.5; scale(a)", let(0, "a", number(8, 0x3f000000), call(13, "scale", word(19, "a"))))
	holdTree(t, "let(1)", call(0, "let", whole(4, 1)))
	holdTree(t, "f(-2147483647)", call(0, "f", whole(2, -2147483647)))
	holdTaken(t, strings.Repeat("f(", 63)+"f()"+strings.Repeat(")", 63))
	for _, c := range []struct {
		text string
		e    api.Errno
		at   int
	}{
		{"chain(", api.ErrSyntax, 6}, {"chain(,)", api.ErrSyntax, 6}, {"f(a=b=1)", api.ErrSyntax, 5}, {"f() g", api.ErrSyntax, 4}, {"f(1,)", api.ErrSyntax, 4},
		{"f", api.ErrSyntax, 1}, {"f(- x)", api.ErrSyntax, 4}, {"", api.ErrSyntax, 0}, {"let a = 1 scale(a)", api.ErrSyntax, 10}, {"let true = 1; f()", api.ErrSyntax, 4}, {"let a = 1;", api.ErrSyntax, 10},
		{"f(1e39)", api.ErrGreat, 2}, {"f(2147483648)", api.ErrGreat, 2}, {"f($", api.ErrByte, 2}, {"scale(", api.ErrSyntax, 6}, {"scale(1e39)", api.ErrGreat, 6},
		{strings.Repeat("f(", 64) + "f()" + strings.Repeat(")", 64), api.ErrDeep, 128},
	} {
		holdRefused(t, c.text, c.e, c.at)
	}
}

// TestPrograms: PR1, without a let, with one and with many.
func TestPrograms(t *testing.T) {
	holdTree(t, "f()", call(0, "f"))
	holdTree(t, " f ( ) ", call(1, "f"))
	holdTree(t, "let a=1;f()", let(0, "a", whole(6, 1), call(8, "f")))
	holdTree(t, `let a=1;let b="w";let c=g(a,b);let d=-2.0;let e=d;f(e)`,
		let(0, "a", whole(6, 1), let(8, "b", quoted(14, "w"), let(18, "c", call(24, "g", word(26, "a"), word(28, "b")), let(31, "d", number(37, 0xc0000000), let(42, "e", word(48, "d"), call(50, "f", word(52, "e"))))))))
	holdTree(t, "let a=1;let a=a;a(a)", let(0, "a", whole(6, 1), let(8, "a", word(14, "a"), call(16, "a", word(18, "a")))))
	for _, text := range []string{"let a=1", "let a=1 ", "let a=1;let b=2", "let a=1;let b=2;", "let a=f()", "let a=f();", "let a=1;b", "let a=1;let b"} {
		holdRefused(t, text, api.ErrSyntax, len(text))
	}
	holdRefused(t, "let a=1;;f()", api.ErrSyntax, 8)
	holdRefused(t, "let a=1;1;f()", api.ErrSyntax, 8)
	holdRefused(t, "let a=1;f();", api.ErrSyntax, 11)
	holdRefused(t, "let a=1;f();g()", api.ErrSyntax, 11)
	holdRefused(t, "f();let a=1;g()", api.ErrSyntax, 3)
	holdRefused(t, "f(let a=1;a)", api.ErrSyntax, 6)
	holdRefused(t, "let a=let b=1;f()", api.ErrSyntax, 10)
	holdRefused(t, "a=1;f()", api.ErrSyntax, 1)
	holdRefused(t, "lets a=1;f()", api.ErrSyntax, 5)
	holdRefused(t, "le a=1;f()", api.ErrSyntax, 3)
	holdRefused(t, `"let" a=1;f()`, api.ErrSyntax, 0)
	holdRefused(t, `let "a"=1;f()`, api.ErrSyntax, 4)
}

// TestLetAsName: PR1, let is a name like others, where no name stands behind it or where no let can stand.
func TestLetAsName(t *testing.T) {
	holdTree(t, "let()", call(0, "let"))
	holdTree(t, "let (let)", call(0, "let", word(5, "let")))
	holdTree(t, "let let=1;f()", let(0, "let", whole(8, 1), call(10, "f")))
	holdTree(t, "let let=let;let(let)", let(0, "let", word(8, "let"), call(12, "let", word(16, "let"))))
	holdTree(t, "let let=let;let let=let();let()", let(0, "let", word(8, "let"), let(12, "let", call(20, "let"), call(26, "let"))))
	holdTree(t, "let a=let(let(),let=let);f()", let(0, "a", call(6, "let", call(10, "let"), keyed("let", word(20, "let"))), call(25, "f")))
	holdTree(t, "f(let,let=1,let())", call(0, "f", word(2, "let"), keyed("let", whole(10, 1)), call(12, "let")))
	holdRefused(t, "let", api.ErrSyntax, 3)
	holdRefused(t, "let let", api.ErrSyntax, 7)
	holdRefused(t, "let let()", api.ErrSyntax, 7)
	holdRefused(t, "let let a=1;f()", api.ErrSyntax, 8)
	holdRefused(t, "let=1;f()", api.ErrSyntax, 3)
	holdRefused(t, "let;", api.ErrSyntax, 3)
	holdRefused(t, "f(let a)", api.ErrSyntax, 6)
	holdRefused(t, "f(a=let b)", api.ErrSyntax, 8)
	holdRefused(t, "let() let a=1;f()", api.ErrSyntax, 6)
}

// TestTrueAndFalse: PR1, PR3, values and names as others, but not those that a let gives.
func TestTrueAndFalse(t *testing.T) {
	for _, name := range []string{"true", "false"} {
		n := len(name)
		holdTree(t, "f("+name+")", call(0, "f", word(2, name)))
		holdTree(t, "f(a="+name+")", call(0, "f", keyed("a", word(4, name))))
		holdTree(t, "f("+name+"=1)", call(0, "f", keyed(name, whole(3+n, 1))))
		holdTree(t, "let a="+name+";f()", let(0, "a", word(6, name), call(7+n, "f")))
		holdTree(t, name+"()", call(0, name))
		holdTree(t, "let a=1;"+name+"("+name+"())", let(0, "a", whole(6, 1), call(8, name, call(9+n, name))))
		holdTree(t, "let "+name+"s=1;f()", let(0, name+"s", whole(6+n, 1), call(8+n, "f")))
		holdTree(t, "let "+name[1:]+"=1;f()", let(0, name[1:], whole(4+n, 1), call(6+n, "f")))
		for _, behind := range []string{"", "=1;f()", "()", " a=1;f()", ";", " "} {
			holdRefused(t, "let "+name+behind, api.ErrSyntax, 4)
			holdRefused(t, "let a=1;let\n"+name+behind, api.ErrSyntax, 12)
		}
		holdRefused(t, name, api.ErrSyntax, n)
		holdRefused(t, name+" a=1;f()", api.ErrSyntax, n+1)
	}
}

// TestArguments: PR1, with and without names, one behind the other, and names where none may stand.
func TestArguments(t *testing.T) {
	holdTree(t, `f(1,2.0,a,"w",g(),-1,-2.0)`, call(0, "f", whole(2, 1), number(4, 0x40000000), word(8, "a"), quoted(10, "w"), call(14, "g"), whole(18, -1), number(21, 0xc0000000)))
	holdTree(t, `f(a=1,b=2.0,c=a,d="w",e=g(),f=-1,g=-2.0)`, call(0, "f", keyed("a", whole(4, 1)), keyed("b", number(8, 0x40000000)), keyed("c", word(14, "a")), keyed("d", quoted(18, "w")), keyed("e", call(24, "g")), keyed("f", whole(30, -1)), keyed("g", number(35, 0xc0000000))))
	holdTree(t, "f(a=1,2,a=3,a)", call(0, "f", keyed("a", whole(4, 1)), whole(6, 2), keyed("a", whole(10, 3)), word(12, "a")))
	holdTree(t, "f(a=g(a=h(a=a)),b)", call(0, "f", keyed("a", call(4, "g", keyed("a", call(8, "h", keyed("a", word(12, "a")))))), word(16, "b")))
	holdTree(t, `f("")`, call(0, "f", quoted(2, "")))
	holdTree(t, `f(""," #(",k="a=1")`, call(0, "f", quoted(2, ""), quoted(5, " #("), keyed("k", quoted(13, "a=1"))))
	for _, c := range []struct {
		text string
		at   int
	}{
		{"f(a=)", 4}, {"f(a=,1)", 4}, {"f(=1)", 2}, {"f(1=2)", 3}, {`f("a"=1)`, 5}, {"f(g()=1)", 5}, {"f(-a=1)", 3}, {"f(a==1)", 4}, {"f(a=b=c=1)", 5}, {"f(a=b c)", 6}, {"f(a b)", 4}, {"f(a=1 b=2)", 6}, {"f(a 1)", 4},
		{"f(1 2)", 4}, {"f(1,,2)", 4}, {"f(,1)", 2}, {"f(a=1,)", 6}, {"f(1;2)", 3}, {"f((1))", 2}, {"f(1))", 4}, {"f()()", 3}, {"f()=1", 3}, {"a=f()", 1}, {"let a=b=1;f()", 7}, {"let a=b=f();f()", 7}, {"let a(1)=1;f()", 5}, {"let 1=a;f()", 4},
		{"(f())", 0}, {"1", 0}, {"1.0", 0}, {`"w"`, 0}, {"-1", 0}, {"-f()", 0}, {";", 0}, {"=", 0}, {",", 0}, {")", 0}, {"f(--1)", 3}, {"f(-)", 3}, {"f(1-)", 3}, {"f(1-2)", 3}, {"f(a-1)", 3}, {"f(a=-)", 5},
	} {
		holdRefused(t, c.text, api.ErrSyntax, c.at)
	}
}

// TestMinus: PR1, ahead of a number, of a whole one, of noughts and of what is neither.
func TestMinus(t *testing.T) {
	holdTree(t, "f(-1.5,- 1.5,-\n1.5e0)", call(0, "f", number(2, 0xbfc00000), number(7, 0xbfc00000), number(13, 0xbfc00000)))
	holdTree(t, "f(-1,- 12,a=-#\n3)", call(0, "f", whole(2, -1), whole(5, -12), keyed("a", whole(12, -3))))
	holdTree(t, "f(0,-0,00,-00)", call(0, "f", whole(2, 0), whole(4, 0), whole(7, 0), whole(10, 0)))
	holdTree(t, "f(0.0,-0.0,0e0,-0E5)", call(0, "f", number(2, 0), number(6, 0x80000000), number(11, 0), number(15, 0x80000000)))
	holdTree(t, "f(1e-46,-1e-46,1e-45,-1e-45)", call(0, "f", number(2, 0), number(8, 0x80000000), number(15, 1), number(21, 0x80000001)))
	holdTree(t, "let a=-1;f()", let(0, "a", whole(6, -1), call(9, "f")))
	holdTree(t, "let a=-0.0;f()", let(0, "a", number(6, 0x80000000), call(11, "f")))
	for _, wrong := range []string{"x", "x()", "true", `"1"`, "(", "(1)", ")", ",", "=", "-1", "- 1.0", ";", "", "let"} {
		holdRefused(t, "f(-"+wrong, api.ErrSyntax, 3)
		holdRefused(t, "f(a= - "+wrong, api.ErrSyntax, 7)
		holdRefused(t, "let a=- "+wrong, api.ErrSyntax, 8)
	}
	holdRefused(t, "f-1", api.ErrSyntax, 1)
	holdRefused(t, "-f(1)", api.ErrSyntax, 0)
	holdRefused(t, "let -a=1;f()", api.ErrSyntax, 4)
	holdRefused(t, "let a-1;f()", api.ErrSyntax, 5)
}

// TestNumbers: PR1, the nearest numbers, and whole ones in all their digits.
func TestNumbers(t *testing.T) {
	for text, bits := range map[string]api.F{"0.1": 0x3dcccccd, "1e-3": 0x3a83126f, "16777217.0": 0x4b800000, "1E2": 0x42c80000, "1e+2": 0x42c80000, "00.50": 0x3f000000, "3.4028235e38": 0x7f7fffff, "3.4028235677e38": 0x7f7fffff, "7e-46": 0, "1e-999999999": 0} {
		holdTree(t, "f("+text+")", call(0, "f", number(2, bits)))
		holdTree(t, "f(-"+text+")", call(0, "f", number(2, bits|0x80000000)))
	}
	for text, n := range map[string]int{"0": 0, "7": 7, "007": 7, "16777217": 16777217, "2147483646": 2147483646, "2147483647": 2147483647} {
		holdTree(t, "f("+text+")", call(0, "f", whole(2, n)))
		holdTree(t, "f(-"+text+")", call(0, "f", whole(2, -n)))
	}
}
