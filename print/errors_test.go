package print

import (
	"strings"
	"testing"

	"lathe/api"
	"lathe/samples"
	"lathe/tree"
)

// A refusal is a tree that may not be, and its error.
type refusal struct {
	node api.Node
	want api.Errno
}

// wrong are trees with each fault.
func wrong() map[string]refusal {
	long := strings.Repeat("n", maxName+1)
	f := call("f")
	return map[string]refusal{
		"no kind":                {api.Node{}, api.ErrTree},
		"kind below":             {api.Node{Kind: -1, Name: "f"}, api.ErrTree},
		"kind above":             {api.Node{Kind: 7, Name: "f"}, api.ErrTree},
		"too deep":               {nest(maxDepth, word("x")), api.ErrDeep},
		"too many":               {call("f", many(maxNodes, whole(1))...), api.ErrMany},
		"long name":              {call(long), api.ErrLong},
		"long key":               {call("f", keyed(long, whole(1))), api.ErrLong},
		"long text":              {quoted(long), api.ErrLong},
		"name of a call":         {call("Scale"), api.ErrTree},
		"empty name":             {call(""), api.ErrTree},
		"key of the root":        {keyed("k", f), api.ErrTree},
		"key that is no name":    {call("f", keyed("9", whole(1))), api.ErrTree},
		"number in a call":       {api.Node{Kind: 1, Name: "f", Num: 1}, api.ErrTree},
		"whole in a call":        {api.Node{Kind: 1, Name: "f", Int: 1}, api.ErrTree},
		"name of a number":       {api.Node{Kind: 2, Name: "x"}, api.ErrTree},
		"argument of a number":   {api.Node{Kind: 2, Args: []api.Node{f}}, api.ErrTree},
		"argument of a whole":    {api.Node{Kind: 3, Args: []api.Node{whole(1)}}, api.ErrTree},
		"whole too great":        {whole(maxCount + 1), api.ErrTree},
		"whole too small":        {whole(-maxCount - 1), api.ErrTree},
		"least whole":            {whole(-maxInt - 1), api.ErrTree},
		"number in a whole":      {api.Node{Kind: 3, Num: 0x80000000}, api.ErrTree},
		"empty word":             {word(""), api.ErrTree},
		"argument of a word":     {api.Node{Kind: 4, Name: "x", Args: []api.Node{f}}, api.ErrTree},
		"quote in a text":        {quoted(`a"b`), api.ErrTree},
		"line in a text":         {quoted("a\nb"), api.ErrTree},
		"byte above in a text":   {quoted("\x7f"), api.ErrTree},
		"argument of a text":     {api.Node{Kind: 5, Args: []api.Node{f}}, api.ErrTree},
		"let true":               {let("true", whole(1), f), api.ErrTree},
		"let false":              {let("false", whole(1), f), api.ErrTree},
		"let without a rest":     {api.Node{Kind: 6, Name: "a", Args: []api.Node{f}}, api.ErrTree},
		"let without arguments":  {api.Node{Kind: 6, Name: "a"}, api.ErrTree},
		"let of three":           {api.Node{Kind: 6, Name: "a", Args: []api.Node{f, f, f}}, api.ErrTree},
		"let as a value":         {let("a", let("b", f, f), f), api.ErrTree},
		"let as an argument":     {call("f", let("a", f, f)), api.ErrTree},
		"word as a rest":         {let("a", f, word("a")), api.ErrTree},
		"key of a value":         {let("a", keyed("k", f), f), api.ErrTree},
		"key of a rest":          {let("a", f, keyed("k", f)), api.ErrTree},
		"deep ahead of many":     {call("f", append(many(maxNodes, whole(1)), nest(maxDepth, f))...), api.ErrDeep},
		"many ahead of no kind":  {call("f", many(maxNodes, api.Node{})...), api.ErrMany},
		"the first node's error": {call("f", quoted(long), call("F")), api.ErrLong},
		"the first one's again":  {call("f", call("F"), quoted(long)), api.ErrTree},
	}
}

// TestTreesThatMayNotBe: PT1, PT2, both tell the error of tree.Check, at the root or below it.
func TestTreesThatMayNotBe(t *testing.T) {
	for name, c := range wrong() {
		t.Run(name, func(t *testing.T) {
			holdRefused(t, c.node, c.want)
			if e := tree.Check(c.node); e != c.want {
				t.Errorf("Check = %d, want %d", e, c.want)
			}
			if name != "key of the root" { // which an argument may have
				below := call("g", whole(1), call("h", c.node))
				holdRefused(t, below, tree.Check(below))
			}
		})
	}
}

// TestNumbersThatAreNotFinite: PT1, PT2, they may not be.
func TestNumbersThatAreNotFinite(t *testing.T) {
	for _, a := range append(samples.NaNs(), 0x7fc00000, 0x7f800000, 0xff800000) {
		holdRefused(t, number(a), api.ErrTree)
		holdRefused(t, call("f", whole(1), number(a)), api.ErrTree)
		holdRefused(t, let("a", number(a), call("f")), api.ErrTree)
	}
}

// TestWidthsBelowOne: PT2, ErrArg comes ahead of every error of the tree, and of a text that is too long.
func TestWidthsBelowOne(t *testing.T) {
	trees := []api.Node{example(), whole(1), call("f"), let("a", whole(1), call("f")), sized(maxSource + 1)}
	for _, c := range wrong() {
		trees = append(trees, c.node)
	}
	for _, n := range trees {
		for _, width := range []int{0, -1, -2, -20, -maxSource, -maxInt, -maxInt - 1} {
			if s, e := Pretty(n, width); s != "" || e != 1 {
				t.Errorf("Pretty(%s, %d) = %q, %d", brief(dump(n)), width, brief(s), e)
			}
		}
	}
}

// TestTreeErrorsAheadOfLength: PT1, PT2, of a tree that may not be and would be too long a text, Check's error is told.
func TestTreeErrorsAheadOfLength(t *testing.T) {
	n := sized(maxSource + 1)
	n.Args = append(n.Args, call("F"))
	holdRefused(t, n, api.ErrTree)
	n.Args[len(n.Args)-1] = number(0x7f800000)
	holdRefused(t, n, api.ErrTree)
	n.Args[len(n.Args)-1] = nest(maxDepth-1, word("x"))
	holdRefused(t, n, api.ErrDeep)
	n.Args = append(n.Args, many(maxNodes, whole(1))...)
	holdRefused(t, n, api.ErrDeep)
	n.Args = many(maxNodes, quoted(strings.Repeat("q", maxName)))
	holdRefused(t, n, api.ErrMany)
}
