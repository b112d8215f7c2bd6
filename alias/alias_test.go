package alias

import (
	"slices"
	"strconv"
	"strings"
	"testing"

	"lathe/api"
	"lathe/parse"
)

// The limits, the kinds and the errors as the document has them.
const (
	maxDepth = 64
	maxNodes = 4096
	maxName  = 64
	maxCount = 1<<31 - 1

	nodeCall   = 1
	nodeNumber = 2
	nodeWhole  = 3
	nodeName   = 4
	nodeText   = 5
	nodeLet    = 6

	errLong  = 2
	errTree  = 70
	errDeep  = 81
	errMany  = 82
	errArity = 131
	errKey   = 132

	maxInt = int(^uint(0) >> 1)
	minInt = -maxInt - 1
)

func call(name string, args ...api.Node) api.Node {
	return api.Node{Kind: nodeCall, Name: name, Args: args}
}

func num(bits api.F) api.Node { return api.Node{Kind: nodeNumber, Num: bits} }

func whole(value int) api.Node { return api.Node{Kind: nodeWhole, Int: value} }

func named(name string) api.Node { return api.Node{Kind: nodeName, Name: name} }

func text(of string) api.Node { return api.Node{Kind: nodeText, Name: of} }

func lets(name string, value, rest api.Node) api.Node {
	return api.Node{Kind: nodeLet, Name: name, Args: []api.Node{value, rest}}
}

func placed(at int, n api.Node) api.Node {
	n.At = at
	return n
}

func keyed(key string, n api.Node) api.Node {
	n.Key = key
	return n
}

// nest is a node under so many calls of that name.
func nest(count int, name string, n api.Node) api.Node {
	for range count {
		n = call(name, n)
	}
	return n
}

// many are so many nodes that are alike.
func many(count int, n api.Node) []api.Node { return slices.Repeat([]api.Node{n}, count) }

// numbered is the tree with a place of its own for each node: from at on, in the order of chapter 7.
func numbered(at int, n api.Node) api.Node {
	var next func(api.Node) api.Node
	next = func(n api.Node) api.Node {
		n.At = at
		at++
		n.Args = slices.Clone(n.Args)
		for i := range n.Args {
			n.Args[i] = next(n.Args[i])
		}
		return n
	}
	return next(n)
}

// level is the tree with all nodes at one place.
func level(at int, n api.Node) api.Node {
	n.At = at
	n.Args = slices.Clone(n.Args)
	for i := range n.Args {
		n.Args[i] = level(at, n.Args[i])
	}
	return n
}

// read is the tree of a text, which must have one.
func read(text string) api.Node {
	n, e, at := parse.Parse(text)
	if e != api.OK {
		panic(text + ": " + strconv.Itoa(int(e)) + " at " + strconv.Itoa(at))
	}
	return n
}

// brief is a text, or the beginning of a long one.
func brief(s string) string {
	if len(s) > 400 {
		return s[:400] + ".."
	}
	return s
}

// dump shows a tree with all that it holds.
func dump(n api.Node) string {
	var b strings.Builder
	var write func(api.Node)
	write = func(n api.Node) {
		b.WriteString("{" + strconv.Itoa(n.Kind) + " " + strconv.Quote(n.Name) + " " + strconv.FormatUint(uint64(n.Num), 16) + " " + strconv.Itoa(n.Int) + " " + strconv.Quote(n.Key) + " @" + strconv.Itoa(n.At))
		for _, a := range n.Args {
			write(a)
		}
		b.WriteString("}")
	}
	write(n)
	return b.String()
}

// holdTree: what a tree becomes, places too.
func holdTree(t *testing.T, n, want api.Node) {
	t.Helper()
	if got, e, at := Expand(n); dump(got) != dump(want) || e != api.OK || at != 0 {
		t.Errorf("Expand of %s:\n%s, %d, %d, not\n%s", brief(dump(n)), brief(dump(got)), e, at, brief(dump(want)))
	}
}

// holdFault: a tree that has no expansion, the error and its place; and no tree beside it.
func holdFault(t *testing.T, n api.Node, want api.Errno, place int) {
	t.Helper()
	if got, e, at := Expand(n); dump(got) != dump(api.Node{}) || e != want || at != place {
		t.Errorf("Expand of %s: %s, %d, %d, not %d at %d", brief(dump(n)), brief(dump(got)), e, at, want, place)
	}
}

// holdText: what a text's tree becomes is another text's, but for places.
func holdText(t *testing.T, text, want string) {
	t.Helper()
	got, e, at := Expand(read(text))
	if dump(level(0, got)) != dump(level(0, read(want))) || e != api.OK || at != 0 {
		t.Errorf("Expand of %s: %s, %d, %d, not %s", brief(text), brief(dump(got)), e, at, brief(want))
	}
}

// holdTextFault: a text whose tree has no expansion, the error and its place.
func holdTextFault(t *testing.T, text string, want api.Errno, place int) {
	t.Helper()
	holdFault(t, read(text), want, place)
}

// TestExamples: AL2, the chapter's examples.
func TestExamples(t *testing.T) {
	holdText(t, "sgd(0.1)", "chain(trace(0.0, false), scale(-0.1))")
	holdText(t, "adam(linear(0.1, 0.0, 9), b2=0.5)", "chain(scale_by_adam(0.9, 0.5, 1e-8, 0.0), chain(scale_by_schedule(linear(0.1, 0.0, 9)), scale(-1.0)))")
	twice := "let r = 0.1; let a = sgd(r); chain(a, a)"
	holdText(t, twice, "chain(chain(trace(0.0, false), scale(-0.1)), chain(trace(0.0, false), scale(-0.1)))")
	n, _, _ := Expand(read(twice))
	if n.At != 29 || n.Args[0].Args[0].At != 35 || n.Args[1].Args[0].At != 38 {
		t.Errorf("the places of %s", dump(n))
	}
	holdTextFault(t, "adam()", errArity, 0)
	holdTextFault(t, "adam(0.1, lr=2)", errKey, 13)
	holdTextFault(t, "adam(rate=0.1, 0.9)", errKey, 15)
	holdTextFault(t, "adagrad(0.1, 0.1, 1e-7, 1)", errArity, 24)
}

// TestNames: AL1, the seventeen names, rising; each is an alias, and no other name is one.
func TestNames(t *testing.T) {
	want := strings.Fields("adabelief adadelta adagrad adam adamax adamw agc amsgrad lamb lars lion novograd optimistic rmsprop scale_by_learning_rate sgd yogi")
	if len(want) != 17 || !slices.IsSorted(want) || !slices.Equal(Names(), want) {
		t.Errorf("Names() = %v", Names())
	}
	for _, name := range want {
		holdFault(t, placed(3, call(name)), errArity, 3)
	}
	for _, name := range strings.Fields("chain scale trace masked add_decayed_weights scale_by_adam scale_by_schedule scale_by_trust_ratio all not linear adams ada sgd_ a identity lr rate false let") {
		holdTree(t, placed(3, call(name)), placed(3, call(name)))
	}
}

// TestNamesAreNew: rule 3, two calls of Names share no memory.
func TestNamesAreNew(t *testing.T) {
	first, second := Names(), Names()
	for i := range first[:cap(first)] {
		first[:cap(first)][i] = "x"
	}
	if second[0] != "adabelief" || second[16] != "yogi" || !slices.Equal(Names(), second) {
		t.Errorf("Names() = %v, then %v", second, Names())
	}
	holdApart(t, listStretch(first, "an answer"), listStretch(second, "another answer"))
}
