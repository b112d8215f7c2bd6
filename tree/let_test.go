package tree

import (
	"strings"
	"testing"

	"lathe/api"
)

// TestLetStands: T1, at the root or as a rest, nowhere else.
func TestLetStands(t *testing.T) {
	inner := let("b", whole(1), call("f"))
	holdFault(t, inner, 0)
	holdFault(t, let("a", whole(1), inner), 0)
	holdFault(t, let("a", call("g", whole(1)), let("a", word("a"), inner)), 0)
	for _, n := range []api.Node{
		let("a", inner, call("f")),
		let("a", whole(1), call("f", inner)),
		let("a", call("f", inner), call("f")),
		let("a", whole(1), let("c", call("f", inner), call("f"))),
		let("a", whole(1), let("c", inner, call("f"))),
		let("a", inner, inner),
		call("f", inner),
		call("f", keyed("k", inner)),
		call("f", whole(1), inner),
		call("f", call("g", inner)),
		call("f", let("a", whole(1), inner)),
	} {
		holdFault(t, n, api.ErrTree)
	}
	for _, n := range samplesOf()[1:] {
		n.Args = []api.Node{inner}
		holdNode(t, n, api.ErrTree)
	}
}

// TestLetArguments: T1, two, the value of any kind but a let, the rest a let or a call.
func TestLetArguments(t *testing.T) {
	lets := func(args ...api.Node) api.Node { return api.Node{Kind: 6, Name: "a", Args: args} }
	f := call("f")
	for _, n := range []api.Node{lets(), lets(f), lets(f, f, f), lets(whole(1)), lets(whole(1), f, f), lets(f, f, f, f), lets(whole(1), lets(whole(1), f), f), lets(whole(1), f, lets(whole(1), f))} {
		holdFault(t, n, api.ErrTree)
		holdFault(t, let("b", whole(1), n), api.ErrTree)
	}
	holdFault(t, api.Node{Kind: 6, Name: "a", Args: []api.Node{}}, api.ErrTree)
	for _, value := range samplesOf() {
		holdFault(t, lets(value, f), 0)
		for _, rest := range append(samplesOf(), lets(value, f), api.Node{Kind: 0, Name: "f"}, api.Node{Kind: 7}) {
			want := mayBe(rest.Kind == 1 || rest.Kind == 6)
			holdFault(t, lets(value, rest), want)
			holdFault(t, let("b", value, lets(value, rest)), want)
		}
	}
}

// TestLetKeys: T1, neither argument has one, whatever it is.
func TestLetKeys(t *testing.T) {
	f := call("f")
	holdFault(t, let("a", keyed("k", whole(1)), f), api.ErrTree)
	holdFault(t, let("a", whole(1), keyed("k", f)), api.ErrTree)
	holdFault(t, let("a", whole(1), keyed("k", let("b", whole(1), f))), api.ErrTree)
	holdFault(t, let("a", keyed("k", f), keyed("k", f)), api.ErrTree)
	holdFault(t, let("a", call("f", keyed("k", whole(1))), call("f", keyed("k", whole(1)))), 0)
}

// TestLetSaysFirst: T1, what a let asks of its arguments is asked ahead of what they are asked; where a let stands is its own matter.
func TestLetSaysFirst(t *testing.T) {
	long := strings.Repeat("n", maxName+1)
	f := call("f")
	holdFault(t, let("a", keyed(long, whole(1)), f), api.ErrTree)
	holdFault(t, let("a", whole(1), keyed(long, f)), api.ErrTree)
	holdFault(t, let("a", whole(1), word(long)), api.ErrTree)
	holdFault(t, let("a", word(long), whole(1)), api.ErrTree)
	holdFault(t, let("a", let(long, whole(1), f), f), api.ErrTree)
	holdFault(t, let("true", word(long), f), api.ErrTree)
	holdFault(t, let("a", word(long), f), api.ErrLong)
	holdFault(t, let("a", word(long), keyed("k", f)), api.ErrTree)
	holdFault(t, let("a", whole(1), call(long)), api.ErrLong)
	holdFault(t, let(long, keyed("k", whole(1)), whole(1)), api.ErrLong)
	holdFault(t, call("f", let(long, whole(1), f)), api.ErrLong)
	holdFault(t, call("f", let("a", word(long), f)), api.ErrTree)
	holdFault(t, call("f", word(long), let("a", whole(1), f)), api.ErrLong)
	holdFault(t, call("f", let("a", whole(1), f), word(long)), api.ErrTree)
}
