package tree

import (
	"math"
	"strings"
	"testing"

	"lathe/api"
	"lathe/samples"
)

// holdFault: Check tells that error.
func holdFault(t *testing.T, n api.Node, want api.Errno) {
	t.Helper()
	if e := Check(n); e != want {
		t.Errorf("Check(%s) = %d, want %d", brief(n), e, want)
	}
}

// holdNode: Check says so of the node wherever a node that is no let may stand.
func holdNode(t *testing.T, n api.Node, want api.Errno) {
	t.Helper()
	good := call("g", keyed("k", whole(2)))
	if n.Key == "" {
		holdFault(t, n, want)
		holdFault(t, let("a", n, good), want)
		holdFault(t, let("a", good, let("b", n, good)), want)
	}
	holdFault(t, call("f", n), want)
	holdFault(t, call("f", good, n, good), want)
	holdFault(t, call("f", good, call("h", n), good), want)
	holdFault(t, let("a", good, call("f", good, n)), want)
	holdFault(t, let("a", call("f", n), good), want)
}

// mayBe is what Check says of a node that may be, or may not.
func mayBe(ok bool) api.Errno {
	if ok {
		return 0
	}
	return 70
}

// samplesOf are nodes that may be, one of each kind but the let's.
func samplesOf() []api.Node {
	return []api.Node{call("f"), number(0x3f800000), whole(-3), word("x"), text("w*")}
}

// TestNamesOfNodes: T1, of a name each byte, as the first one and as a later one.
func TestNamesOfNodes(t *testing.T) {
	const letters, digits = "abcdefghijklmnopqrstuvwxyz_", "0123456789"
	hold := func(name string, want api.Errno) {
		t.Helper()
		holdNode(t, call(name), want)
		holdNode(t, call(name, whole(1)), want)
		holdNode(t, word(name), want)
		holdFault(t, let(name, whole(1), call("f")), want)
		holdFault(t, let("a", whole(1), let(name, whole(1), call("f"))), want)
		for _, n := range samplesOf() {
			holdNode(t, keyed(name, n), want)
		}
	}
	for c := range 256 {
		b := string([]byte{byte(c)})
		first := strings.Contains(letters, b)
		later := first || strings.Contains(digits, b)
		hold(b, mayBe(first))
		hold(b+"a", mayBe(first))
		hold("a"+b, mayBe(later))
		hold("_9"+b+"z", mayBe(later))
	}
	for _, name := range []string{"let", "truer", "tru", "nan", "inf", "e5", "_", "___", "a0b1", strings.Repeat("z", maxName), "_" + strings.Repeat("9", maxName-1)} {
		hold(name, 0)
	}
	for _, name := range []string{"Scale", "scalE", "a b", "a.b", "a-b", "a=b", " a", "a ", "a\x00", "\u00e9", "a\u00e9", "\u0430", strings.Repeat("z", maxName-1) + "Z", strings.Repeat("9", maxName)} {
		hold(name, api.ErrTree)
	}
}

// TestEmptyNames: T1, a Name must be there, or must not; the empty Key is none.
func TestEmptyNames(t *testing.T) {
	holdNode(t, call(""), api.ErrTree)
	holdNode(t, word(""), api.ErrTree)
	holdFault(t, let("", whole(1), call("f")), api.ErrTree)
	holdNode(t, text(""), 0)
	for _, n := range []api.Node{number(0x3f800000), whole(1)} {
		for _, name := range []string{"a", " ", "0", "\x00", strings.Repeat("a", maxName)} {
			n.Name = name
			holdNode(t, n, api.ErrTree)
		}
	}
}

// TestTrueAndFalse: T1, names of calls, of words and of keys, but not of lets.
func TestTrueAndFalse(t *testing.T) {
	for _, name := range []string{"true", "false"} {
		holdNode(t, call(name), 0)
		holdNode(t, word(name), 0)
		holdNode(t, text(name), 0)
		holdNode(t, keyed(name, whole(1)), 0)
		holdFault(t, let(name, whole(1), call("f")), api.ErrTree)
		holdFault(t, let("a", whole(1), let(name, whole(1), call("f"))), api.ErrTree)
		for _, other := range []string{name + "_", name + "0", "_" + name, name[1:], name[:len(name)-1]} {
			holdFault(t, let(other, whole(1), call("f")), 0)
		}
	}
}

// TestTexts: T1, of a text each byte.
func TestTexts(t *testing.T) {
	for c := range 256 {
		b := string([]byte{byte(c)})
		want := mayBe(c >= 32 && c <= 126 && c != 34)
		for _, s := range []string{b, b + "w", "w" + b, "w" + b + "*", b + b, strings.Repeat(" ", maxName-1) + b} {
			holdNode(t, text(s), want)
		}
	}
	holdNode(t, text("\u00e9"), api.ErrTree)
	holdNode(t, text("0123456789 !#$%&'()*+,-./:;<=>?@[\\]^_`{|}~"), 0)
}

// TestNumbers: T1, Num of each kind.
func TestNumbers(t *testing.T) {
	patterns := append(samples.Edges(), samples.NaNs()...)
	s := samples.Source(70)
	for range 200 {
		patterns = append(patterns, s.Next())
	}
	for _, a := range patterns {
		holdNode(t, number(a), mayBe(a&0x7fffffff < 0x7f800000))
		for _, n := range []api.Node{call("f"), call("f", whole(1)), whole(0), whole(7), word("x"), text("w")} {
			n.Num = a
			holdNode(t, n, mayBe(a == 0))
		}
		l := let("a", whole(1), call("f"))
		l.Num = a
		holdFault(t, l, mayBe(a == 0))
	}
	for _, a := range []api.F{0, 0x80000000, 0x7f7fffff, 0xff7fffff, 1} {
		holdNode(t, number(a), 0)
	}
	for _, a := range []api.F{0x7f800000, 0xff800000, 0x7fc00000, 0x7f800001, 0xffffffff} {
		holdNode(t, number(a), api.ErrTree)
	}
}

// TestWholes: T1, Int of each kind.
func TestWholes(t *testing.T) {
	for _, i := range []int{0, 1, -1, 1000, maxCount - 1, maxCount, -maxCount, 1 - maxCount, maxCount + 1, -maxCount - 1, 1 << 32, -1 << 32, 1<<32 + 5, math.MaxInt, math.MinInt} {
		holdNode(t, whole(i), mayBe(i >= -maxCount && i <= maxCount))
		for _, n := range []api.Node{call("f"), number(0), number(0x3f800000), word("x"), text("w")} {
			n.Int = i
			holdNode(t, n, mayBe(i == 0))
		}
		l := let("a", whole(1), call("f"))
		l.Int = i
		holdFault(t, l, mayBe(i == 0))
	}
}

// TestArguments: T1, of calls any, of others none; nil and the empty list are the same.
func TestArguments(t *testing.T) {
	for _, n := range samplesOf() {
		n.Args = []api.Node{}
		holdNode(t, n, 0)
		n.Args = make([]api.Node, 0, 5)
		holdNode(t, n, 0)
		for count := 1; count <= 3; count++ {
			n.Args = many(count, whole(1))
			holdNode(t, n, mayBe(n.Kind == 1))
			n.Args = many(count, keyed("k", call("g")))
			holdNode(t, n, mayBe(n.Kind == 1))
		}
		n.Args = samplesOf()
		holdNode(t, n, mayBe(n.Kind == 1))
	}
}

// TestKinds: T1, the six and no others.
func TestKinds(t *testing.T) {
	for _, kind := range []int{0, 7, 8, -1, -6, 10, 257, 1<<32 + 1, math.MaxInt, math.MinInt} {
		holdNode(t, api.Node{Kind: kind}, api.ErrTree)
		for _, n := range append(samplesOf(), api.Node{Args: let("a", whole(1), call("f")).Args, Name: "a"}) {
			n.Kind = kind
			holdNode(t, n, api.ErrTree)
		}
	}
	for _, n := range samplesOf() {
		holdNode(t, n, 0)
	}
	holdFault(t, api.Node{}, api.ErrTree)
}

// TestKeys: T1, a root has none, nor have a let's arguments.
func TestKeys(t *testing.T) {
	for _, n := range append(samplesOf(), let("a", whole(1), call("f"))) {
		for _, key := range []string{"k", "_", "true", strings.Repeat("k", maxName), "K", "1", " "} {
			holdFault(t, keyed(key, n), api.ErrTree)
			holdFault(t, let("a", keyed(key, n), call("f")), api.ErrTree)
			holdFault(t, let("a", whole(1), keyed(key, n)), api.ErrTree)
			holdFault(t, let("b", whole(1), let("a", whole(1), keyed(key, n))), api.ErrTree)
		}
	}
}

// TestLong: T1, Name and Key of MaxName bytes and of one more, in every kind.
func TestLong(t *testing.T) {
	fits, long := strings.Repeat("n", maxName), strings.Repeat("n", maxName+1)
	kinds := append(samplesOf(), api.Node{Kind: 0}, api.Node{Kind: 7, Name: "a"}, api.Node{Kind: 2, Num: 0x7fc00000}, whole(maxCount+1), call("F", whole(1)))
	for _, n := range kinds {
		m := n
		m.Name = long
		holdNode(t, m, api.ErrLong)
		m.Name = strings.Repeat("\xff", maxName+1)
		holdNode(t, m, api.ErrLong)
		m.Name = strings.Repeat("\"", 1000)
		holdNode(t, m, api.ErrLong)
		holdNode(t, keyed(long, n), api.ErrLong)
		holdNode(t, keyed(long, m), api.ErrLong)
		holdNode(t, keyed("K", m), api.ErrLong)
		holdNode(t, keyed(strings.Repeat("0", maxName+1), n), api.ErrLong)
		holdFault(t, keyed(long, n), api.ErrLong)
	}
	holdNode(t, call(fits), 0)
	holdNode(t, word(fits), 0)
	holdNode(t, text(fits), 0)
	holdNode(t, keyed(fits, call(fits)), 0)
	holdFault(t, let(fits, whole(1), call("f")), 0)
	holdFault(t, let(long, whole(1), call("f")), api.ErrLong)
	holdFault(t, keyed(long, let("a", whole(1), call("f"))), api.ErrLong)
	holdFault(t, let("a", whole(1), let(long, whole(1), call("f"))), api.ErrLong)
	holdFault(t, api.Node{Kind: 6, Name: long}, api.ErrLong)
}
