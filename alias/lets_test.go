package alias

import (
	"strings"
	"testing"

	"lathe/api"
)

// TestLets: AL2 and AL3, lets are written out, and what comes of it is what the program with their values becomes.
func TestLets(t *testing.T) {
	for _, c := range [][2]string{
		{"let a = 1; f(a)", "f(1)"},
		{"let a = 1; f()", "f()"},
		{"let a = 1; f(b)", "f(b)"},
		{"let a = 1.5; f(a, a, g(a, h(a)), a)", "f(1.5, 1.5, g(1.5, h(1.5)), 1.5)"},
		{"let a = 1; let b = 2; f(a, b, a)", "f(1, 2, 1)"},
		{"let a = 1; let b = a; let c = b; f(c, b, a)", "f(1, 1, 1)"},
		{"let a = 1; let b = g(a, a); let c = h(b, a, b); f(c)", "f(h(g(1, 1), 1, g(1, 1)))"},
		{"let a = \"w*\"; f(a)", "f(\"w*\")"},
		{"let a = b; f(a)", "f(b)"},
		{"let a = true; f(a, true)", "f(true, true)"},
		{"let a = g(h(k=1)); f(a)", "f(g(h(k=1)))"},
		{"let a = -0.0; f(a)", "f(-0.0)"},
	} {
		holdText(t, c[0], c[1])
	}
}

// TestWhichLet: AL2, which let a name means: the last of its name ahead of the place where it stands.
func TestWhichLet(t *testing.T) {
	for _, c := range [][2]string{
		{"let a = 1; let a = 2; f(a)", "f(2)"},
		{"let a = 1; let a = a; f(a)", "f(1)"},
		{"let a = 1; let a = g(a, a); f(a)", "f(g(1, 1))"},
		{"let a = 1; let a = g(a); let a = h(a); f(a)", "f(h(g(1)))"},
		{"let a = a; f(a)", "f(a)"},
		{"let a = g(a); f(a)", "f(g(a))"},
		{"let b = a; let a = 1; f(b, a)", "f(a, 1)"},
		{"let b = g(a); let a = 1; let c = b; f(b, c, a)", "f(g(a), g(a), 1)"},
		{"let a = 1; let b = a; let a = 2; f(b, a)", "f(1, 2)"},
		{"let a = 1; let b = g(a); let a = 2; let c = g(a, b); f(c, b, a)", "f(g(2, g(1)), g(1), 2)"},
		{"let a = b; let b = a; let a = b; f(a, b)", "f(b, b)"},
		{"let a = b; let b = 1; let c = a; f(a, b, c)", "f(b, 1, b)"},
		{"let a = c; let b = a; let c = b; f(c)", "f(c)"},
		{"let a = 1; let b = 2; let a = b; let b = a; f(a, b)", "f(2, 2)"},
		{"let x = y; let y = x; let x = y; let y = x; f(x, y)", "f(y, y)"},
	} {
		holdText(t, c[0], c[1])
	}
}

// TestNotMeant: AL2, only a NodeName means a let: no call, no text, no Key.
func TestNotMeant(t *testing.T) {
	for _, c := range [][2]string{
		{"let f = 1; f(f)", "f(1)"},
		{"let a = 1; a(a, a=a, b=a(), k=\"a\")", "a(1, a=1, b=a(), k=\"a\")"},
		{"let scale = 2; scale(scale)", "scale(2)"},
		{"let sgd = 2; sgd(sgd)", "chain(trace(0.0, false), scale(-2.0))"},
		{"let sgd = sgd(1); f(sgd, sgd(2))", "f(chain(trace(0.0, false), scale(-1.0)), chain(trace(0.0, false), scale(-2.0)))"},
		{"let adam = f; adam(adam)", "chain(scale_by_adam(0.9, 0.999, 1e-8, 0.0), chain(scale_by_schedule(f), scale(-1.0)))"},
		{"let rate = 2; sgd(rate=rate)", "chain(trace(0.0, false), scale(-2.0))"},
		{"let rate = 2; sgd(1)", "chain(trace(0.0, false), scale(-1.0))"},
		{"let momentum = 2; sgd(1)", "chain(trace(0.0, false), scale(-1.0))"},
		{"let let = 3; f(let)", "f(3)"},
		{"let all = 3; lion(1)", "chain(scale_by_lion(0.9, 0.99), masked(all(), add_decayed_weights(1e-3)), scale(-1.0))"},
		{"let chain = 3; let scale = chain; sgd(chain)", "chain(trace(0.0, false), scale(-3.0))"},
	} {
		holdText(t, c[0], c[1])
	}
}

// TestLetsOfAliases: AL2, aliases in values and in the program: values are written ahead of all replacing, so that a number is one there.
func TestLetsOfAliases(t *testing.T) {
	half, other := "chain(trace(0.0, false), scale(-0.5))", "chain(trace(0.9, false), scale(-0.5))"
	for _, c := range [][2]string{
		{"let r = 0.5; sgd(r)", half},
		{"let r = 0.5; sgd(rate=r)", half},
		{"let r = 0.5; let s = r; let r = 3; sgd(s)", half},
		{"let a = sgd(0.5); f(a, k=a)", "f(" + half + ", k=" + half + ")"},
		{"let m = 0.9; let a = sgd(0.5, m); f(a)", "f(" + other + ")"},
		{"let m = 0.9; let r = 0.5; let a = sgd(momentum=m, rate=r); f(a)", "f(" + other + ")"},
		{"let r = constant(0.5); sgd(r)", "chain(trace(0.0, false), chain(scale_by_schedule(constant(0.5)), scale(-1.0)))"},
		{"let a = sgd(0.5); sgd(a)", "chain(trace(0.0, false), chain(scale_by_schedule(" + half + "), scale(-1.0)))"},
		{"let a = sgd(0.5); let b = sgd(a); f(b)", "f(chain(trace(0.0, false), chain(scale_by_schedule(" + half + "), scale(-1.0))))"},
		{"let w = 3; scale_by_learning_rate(w)", "scale(-3.0)"},
		{"let w = r; scale_by_learning_rate(w)", "chain(scale_by_schedule(r), scale(-1.0))"},
	} {
		holdText(t, c[0], c[1])
	}
}

// TestLetsDropped: AL2, lets that nothing in the program means are dropped, whatever their values are at fault.
func TestLetsDropped(t *testing.T) {
	for _, value := range []string{"1", "adam()", "sgd(x=1)", "f(adam())", "sgd(1, 2, 3, 4)", "sgd(rate=1, 2)"} {
		holdText(t, "let a = "+value+"; f(1)", "f(1)")
		holdText(t, "let a = "+value+"; let b = g(a); f(1)", "f(1)")
		holdText(t, "let a = "+value+"; let a = 2; f(a)", "f(2)")
		holdText(t, "let a = "+value+"; let b = a; let a = 2; sgd(a)", "chain(trace(0.0, false), scale(-2.0))")
	}
	holdTextFault(t, "let a = adam(); f(a)", errArity, 18)
	holdTextFault(t, "let a = sgd(x=1); f(1, k=a)", errKey, 25)
	holdTextFault(t, "let a = sgd(x=1); let b = g(a); f(1, b, a)", errKey, 37)
	holdTextFault(t, "let a = sgd(1, 2, 3, 4); let b = a; sgd(b)", errArity, 40)
	holdTextFault(t, "let a = adam(); sgd(x=a)", errKey, 22)
	holdTextFault(t, "let a = adam(); let b = sgd(x=1); f(b, a)", errKey, 36)
}

// TestPlacesThroughLets: AL2, the Key and the places of what is written for a name, through one let and through several.
func TestPlacesThroughLets(t *testing.T) {
	value := call("g", placed(11, keyed("k", whole(1))), placed(12, call("h", placed(13, text("w")))))
	for _, at := range []int{0, 7, -1, maxInt, minInt} {
		for _, key := range []string{"", "k", "rate", "a"} {
			name := func(of string) api.Node { return placed(at, keyed(key, named(of))) }
			program := func(of string) api.Node { return placed(40, call("f", placed(41, whole(2)), name(of), name(of))) }
			written := placed(40, call("f", placed(41, whole(2)), keyed(key, level(at, value)), keyed(key, level(at, value))))
			holdTree(t, placed(1, lets("a", placed(10, value), program("a"))), written)
			holdTree(t, lets("a", value, placed(2, lets("b", placed(20, named("a")), program("b")))), written)
			holdTree(t, lets("a", value, lets("b", placed(20, named("a")), lets("c", placed(30, named("b")), program("c")))), written)
			holdTree(t, lets("a", placed(14, whole(1)), lets("b", call("g", placed(21, keyed("k", named("a"))), placed(22, call("h", placed(23, text("w"))))), program("b"))), written)
		}
	}
}

// TestPlacesOfAliasesInLets: AL2, an alias in a let's value is written at the name's place, and so is all that it becomes.
func TestPlacesOfAliasesInLets(t *testing.T) {
	n, _, _ := Expand(read("let r = 0.5; let a = lamb(r, eps=3, mask=not(\"w\")); chain(k=a, a)"))
	text := "chain(scale_by_adam(0.9, 0.999, 3, 0.0), masked(not(\"w\"), add_decayed_weights(0.0)), scale_by_trust_ratio(0.0, 1.0, 0.0), scale(-0.5))"
	want := placed(52, call("chain", keyed("k", level(60, read(text))), level(63, read(text))))
	if dump(n) != dump(want) {
		t.Errorf("%s, not %s", dump(n), dump(want))
	}
	holdTextFault(t, "let a = f(sgd(1, x=2)); chain(a, a)", errKey, 30)
}

// TestFaultsAreWrittenOnes: AL2, the Key and the place that are asked are those of the written node, not those of the let's value.
func TestFaultsAreWrittenOnes(t *testing.T) {
	holdTextFault(t, "let a = 1; adam(0.1, lr=a)", errKey, 24)
	holdTextFault(t, "let a = 1; adam(a, rate=a)", errKey, 24)
	holdTextFault(t, "let a = 1; adam(rate=a, a)", errKey, 24)
	holdTextFault(t, "let a = 1; adagrad(a, a, a, a)", errArity, 28)
	holdTextFault(t, "let a = sgd(1); let b = f(a, sgd(2, nesterov=a, nesterov=a)); g(b)", errKey, 64)
}

// TestManyLets: AL2, as many lets as a tree can have, each meaning the one ahead of it.
func TestManyLets(t *testing.T) {
	var b strings.Builder
	b.WriteString("let a0 = sgd(1); ")
	last := "a0"
	for i := range 61 {
		next := "a" + strings.Repeat("x", i+1)
		b.WriteString("let " + next + " = " + last + "; ")
		last = next
	}
	holdText(t, b.String()+"f("+last+", a0)", "f(chain(trace(0.0, false), scale(-1.0)), chain(trace(0.0, false), scale(-1.0)))")
	holdText(t, strings.ReplaceAll(b.String(), "x", "")+"f(a, a0)", "f(chain(trace(0.0, false), scale(-1.0)), chain(trace(0.0, false), scale(-1.0)))")
}
