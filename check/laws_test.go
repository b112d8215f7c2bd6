package check

import (
	"math"
	"slices"
	"testing"

	"lathe/api"
	"lathe/samples"
	"lathe/tree"
)

// holdWords: CH2 and CH3, Check answers what the chapter's words say, and what it answers is Valid.
func holdWords(t *testing.T, n api.Node, list []api.Param) api.Errno {
	t.Helper()
	want, e, at := told(n, list)
	if e != api.OK {
		holdFault(t, n, list, e, at)
	} else {
		holdTyped(t, n, list, dump(want))
	}
	return e
}

// holdPlaces: CH4, the answer hangs on the tree but for places.
func holdPlaces(t *testing.T, n api.Node, list []api.Param) {
	t.Helper()
	first, e, _ := Check(n, list)
	for _, other := range []api.Node{tree.Strip(n), numbered(1000, n)} {
		second, f, at := Check(other, list)
		if e != f || dump(first) != dump(second) {
			t.Errorf("Check(%s) = %s, %d, with other places %s, %d", show(n), brief(dump(first)), e, brief(dump(second)), f)
		}
		if other.At == 0 && at != 0 {
			t.Errorf("Check of %s without places: at %d", show(n), at)
		}
	}
}

// holdSignatures: CH4, the lengths of the parameters do not matter; neither do their names where no mask asks for them.
func holdSignatures(t *testing.T, n api.Node, list []api.Param) {
	t.Helper()
	first, e, at := Check(n, list)
	other := slices.Clone(list)
	for i := range other {
		other[i].Len = 1 + (other[i].Len*7+i)%40
	}
	second, f, place := Check(n, other)
	if e != f || at != place || dump(first) != dump(second) {
		t.Errorf("Check(%s) = %s, %d at %d, with other lengths %s, %d at %d", show(n), brief(dump(first)), e, at, brief(dump(second)), f, place)
	}
	if Valid(first, list) != Valid(second, other) {
		t.Errorf("Valid of %s with other lengths: another error", brief(dump(first)))
	}
}

// TestProgramsFromAllOver: CH2 to CH4, at programs of all shapes, with faults and without.
func TestProgramsFromAllOver(t *testing.T) {
	g, count := &grower{Source: samples.Source(133)}, map[api.Errno]int{}
	for range 12000 {
		if t.Failed() {
			return
		}
		n, list := g.program(), g.signature()
		for range g.upTo(4) {
			if g.upTo(2) == 0 {
				n = g.harmed(n)
			}
		}
		n = numbered(g.UpTo(1000), n)
		count[holdWords(t, n, list)]++
		holdPlaces(t, n, list)
		holdSignatures(t, n, list)
	}
	for e, least := range map[api.Errno]int{api.OK: 2000, errTree: 300, errDeep: 20, errMask: 20, errNone: 200, errName: 100, errArity: 200, errKey: 150, errType: 200, errValue: 500, errComplex: 100} {
		if count[e] < least {
			t.Errorf("%v: that tells too little", count)
		}
	}
}

// TestTypedProgramsFromAllOver: CH3, at typed programs of all shapes with one part changed, and two.
func TestTypedProgramsFromAllOver(t *testing.T) {
	g, count := &grower{Source: samples.Source(134)}, map[api.Errno]int{}
	for range 20000 {
		if t.Failed() {
			return
		}
		n, list := g.program(), g.signature()
		x, e, _ := Check(n, list)
		if e != api.OK {
			continue
		}
		for range 1 + g.upTo(2) {
			x = g.spoiltTx(x)
		}
		if g.upTo(4) == 0 {
			list = g.signature()
		}
		want := toldValid(x, list)
		count[want]++
		holdValid(t, x, list, want)
	}
	for e, least := range map[api.Errno]int{api.OK: 500, errArg: 4000, errComplex: 50} {
		if count[e] < least {
			t.Errorf("%v: that tells too little", count)
		}
	}
}

// TestPlacesOfAnySize: CH2, a place is handed on as it is.
func TestPlacesOfAnySize(t *testing.T) {
	for _, at := range []int{0, 1, -1, math.MaxInt, math.MinInt} {
		holdFault(t, placed(at, call("foo")), wz(), errName, at)
		holdFault(t, call("scale", placed(at, text("w"))), wz(), errType, at)
		holdFault(t, call("masked", placed(3, call("not", placed(at, text("q")))), call("identity")), wz(), errNone, at)
		holdFault(t, call("chain", placed(at, call("clip", wholeOf(1)))), wz(), errComplex, at)
		holdFault(t, placed(at, nested(maxDepth+1)), wz(), errDeep, at)
		holdFault(t, call("chain", placed(at, call("adam"))), wz(), errArity, at)
		holdFault(t, placed(at, call("foo")), make([]api.Param, 65), errLong, 0)
		holdTyped(t, placed(at, call("scale", placed(at, wholeOf(2)))), wz(), "2[40000000]")
	}
}

// TestSameNames: CH4, with another signature of the same names, kinds and order the typed program is the same; with another order or other
// kinds it need not be.
func TestSameNames(t *testing.T) {
	n := read(`chain(masked(or("w", complex()), adam(0.1)), partition("z", scale(2), real(), clip(1), identity()))`)
	const want = "23(24<0 1>(23(9[3f666666 3f7fbe77 322bcc77 00000000] 2[bdcccccd])) 25<1><0 2>(2[40000000] 4[3f800000] 1))"
	list := mixed()[:3]
	holdTyped(t, n, list, want)
	for _, length := range []int{1, 2, 4096} {
		for i := range list {
			list[i].Len = length
		}
		holdTyped(t, n, list, want)
	}
	list[0], list[1] = list[1], list[0]
	holdTyped(t, n, list, "23(24<0 1>(23(9[3f666666 3f7fbe77 322bcc77 00000000] 2[bdcccccd])) 25<0><1 2>(2[40000000] 4[3f800000] 1))")
}

// TestAliasesAndLets: CH2, a tree with aliases and lets has the typed program of its expansion, and faults in it their places.
func TestAliasesAndLets(t *testing.T) {
	for program, plain := range map[string]string{
		"adam(0.001)": "chain(scale_by_adam(), scale(-0.001))",
		"sgd(linear(0.1, 0.0, 9), momentum=0.9, nesterov=true)": "chain(trace(0.9, true), chain(scale_by_schedule(linear(0.1, 0.0, 9)), scale(-1.0)))",
		`adamw(0.1, mask="w")`: `chain(scale_by_adam(), masked("w", add_decayed_weights(1e-4)), scale(-0.1))`,
		"let a = 2; let b = scale(a); chain(b, multi_steps(a, b))":                   "chain(scale(2), multi_steps(2, scale(2)))",
		"let m = not(real()); let s = warmup(0.1, 2, 3); masked(m, rmsprop(rate=s))": "masked(not(real()), chain(scale_by_rms(), chain(scale_by_schedule(warmup(0.1, 2, 3)), scale(-1.0)), trace(0.0, false)))",
		"let t = true; trace(0.5, nesterov=t)":                                       "trace(0.5, true)",
		"lars(rate=1)":                                                               "chain(add_decayed_weights(0), scale_by_trust_ratio(coefficient=1e-3), scale(-1), trace(0.9))",
	} {
		want, e, at := Check(read(plain), wz())
		if e != api.OK {
			t.Errorf("%s: %d at %d", plain, e, at)
		}
		holdTyped(t, read(program), wz(), dump(want))
	}
	for _, c := range []struct {
		program string
		e       api.Errno
		at      int
	}{
		{"let r = foo(); sgd(r)", errName, 19},
		{"let r = plus(1, foo()); chain(identity(), sgd(r))", errName, 46},
		{"adam(0.1, 2.0)", errValue, 10},
		{"adam(0.1, b1=true)", errType, 13},
		{"adam(true)", errType, 5},
		{`adamw(0.1, mask="q")`, errNone, 16},
		{"sgd(0.1, nesterov=1)", errType, 18},
		{"let m = 1.5; sgd(0.1, m)", errValue, 22},
		{"chain(identity(), lion(0.1))", errComplex, 18},
		{"let x = clip(1); chain(identity(), x)", errComplex, 35},
		{"let scale = 1; scale(scale)", api.OK, 0},
		{"scale(scale)", errType, 6},
	} {
		if c.e == api.OK {
			holdTyped(t, read(c.program), wz(), "2[3f800000]")
			continue
		}
		holdFault(t, read(c.program), wz(), c.e, c.at)
	}
}
