package alias

import (
	"testing"

	"lathe/api"
)

// at7 are all nodes of a text's tree at 7: what an alias's call at 7 makes.
func at7(text string) api.Node { return level(7, read(text)) }

// TestPlacesAndKeys: AL2, the outermost node has the call's Key, given nodes lose theirs and keep their places, all others have the call's.
func TestPlacesAndKeys(t *testing.T) {
	want := at7("chain(scale_by_adam(b1, 0.5, 1e-8, 0.0), masked(all(), add_decayed_weights(x)), chain(scale_by_schedule(r), scale(-1.0)))")
	want.Args[0].Args[1] = placed(20, num(0x3f000000))
	want.Args[0].Args[0] = placed(21, call("b1", placed(22, keyed("k", whole(3)))))
	want.Args[1].Args[1].Args[0] = placed(23, named("x"))
	want.Args[2].Args[0].Args[0] = placed(24, text("r"))
	n := placed(7, call("adamw", placed(24, text("r")), placed(21, call("b1", placed(22, keyed("k", whole(3))))), placed(23, keyed("weight_decay", named("x"))), placed(20, keyed("b2", num(0x3f000000)))))
	holdTree(t, n, want)
	holdTree(t, placed(5, call("f", keyed("k", n))), placed(5, call("f", keyed("k", want))))
	holdTree(t, placed(5, call("f", n)), placed(5, call("f", want)))
	n.Args[0].Key = "rate"
	n.Args[1].Key = "b1"
	holdTree(t, n, want)
	n.Args[3].Key = "mask"
	want.Args[0].Args[1] = placed(7, num(0x3f7fbe77))
	want.Args[1].Args[0] = placed(20, num(0x3f000000))
	holdTree(t, n, want)
}

// TestPlaceOfRate: AL2, the rate's number stays at its place, the scale about it is at the call's.
func TestPlaceOfRate(t *testing.T) {
	for _, at := range []int{0, 1, 9, -1, maxInt, minInt} {
		want := placed(7, call("scale", placed(at, num(0xbf800000))))
		for _, rate := range []api.Node{num(0x3f800000), whole(1), keyed("rate", num(0x3f800000)), keyed("rate", whole(1))} {
			holdTree(t, placed(7, call("scale_by_learning_rate", placed(at, rate))), want)
			n, _, _ := Expand(placed(7, call("sgd", placed(at, rate))))
			if dump(n.Args[1]) != dump(want) {
				t.Error(dump(n))
			}
		}
		n, _, _ := Expand(placed(at, call("lamb", placed(7, named("r")))))
		for _, m := range inOrder(n) {
			if is := m.Kind == nodeName && m.Name == "r"; is && m.At != 7 || !is && m.At != at {
				t.Error(dump(n))
			}
		}
	}
}

// TestWithinAliases: AL2, aliases within arguments of aliases become what they become by themselves, with their own places.
func TestWithinAliases(t *testing.T) {
	holdText(t, "sgd(sgd(0.5))", "chain(trace(0.0, false), chain(scale_by_schedule(chain(trace(0.0, false), scale(-0.5))), scale(-1.0)))")
	holdText(t, "sgd(scale_by_learning_rate(0.5))", "chain(trace(0.0, false), chain(scale_by_schedule(scale(-0.5)), scale(-1.0)))")
	holdText(t, "scale_by_learning_rate(scale_by_learning_rate(scale_by_learning_rate(2)))", "chain(scale_by_schedule(chain(scale_by_schedule(scale(-2.0)), scale(-1.0))), scale(-1.0))")
	holdText(t, "lion(1, sgd(2, 3), mask=not(yogi(4)), weight_decay=f(k=sgd(rate=5)))",
		"chain(scale_by_lion(chain(trace(3, false), scale(-2.0)), 0.99), masked(not(chain(scale_by_yogi(0.9, 0.999, 1e-3, 1e-6), scale(-4.0))), add_decayed_weights(f(k=chain(trace(0.0, false), scale(-5.0))))), scale(-1.0))")
	inner := at7("chain(trace(0.0, false), scale(0.0))")
	inner.Args[1].Args[0] = placed(8, num(0x80000000))
	outer := level(3, read("chain(trace(x, true), chain(scale_by_schedule(f(y)), scale(-1.0)))"))
	outer.Args[0].Args[0] = inner
	outer.Args[0].Args[1].At = 4
	outer.Args[1].Args[0].Args[0] = placed(5, call("f", keyed("k", inner)))
	sgd := placed(7, call("sgd", placed(8, num(0))))
	holdTree(t, placed(3, call("sgd", placed(5, call("f", keyed("k", sgd))), keyed("nesterov", placed(4, named("true"))), keyed("momentum", sgd))), outer)
}

// TestWithinCalls: AL2, aliases within calls that are none, at several places.
func TestWithinCalls(t *testing.T) {
	holdText(t, "chain(sgd(1), clip(0.5), sgd(2))", "chain(chain(trace(0.0, false), scale(-1.0)), clip(0.5), chain(trace(0.0, false), scale(-2.0)))")
	holdText(t, "f(g(h(k=sgd(1))), sgd, \"sgd\", sgd=sgd(1))", "f(g(h(k=chain(trace(0.0, false), scale(-1.0)))), sgd, \"sgd\", sgd=chain(trace(0.0, false), scale(-1.0)))")
	holdText(t, "masked(\"w*\", multi_steps(2, adagrad(constant(1.0), eps=1)))", "masked(\"w*\", multi_steps(2, chain(scale_by_rss(0.1, 1), chain(scale_by_schedule(constant(1.0)), scale(-1.0)))))")
	want := at7("chain(trace(0.0, false), scale(-1.0))")
	want.Args[1].Args[0].At = 8
	sgd := placed(7, call("sgd", placed(8, whole(1))))
	holdTree(t, call("f", many(100, sgd)...), call("f", many(100, want)...))
	holdTree(t, nest(40, "f", sgd), nest(40, "f", want))
	holdTree(t, nest(40, "f", call("g", whole(1), keyed("k", sgd), named("a"))), nest(40, "f", call("g", whole(1), keyed("k", want), named("a"))))
}

// TestOthersStay: AL2 and AL3, trees without aliases and lets, of every kind of nodes, are their own expansions.
func TestOthersStay(t *testing.T) {
	for _, n := range []api.Node{
		num(0), num(0x80000000), num(1), num(0xff7fffff), num(0x3f800000), whole(0), whole(maxCount), whole(-maxCount),
		named("a"), named("sgd"), named("adam"), named("true"), named("false"), named("let"), named("rate"),
		text(""), text("w*"), text("sgd(1)"), text(" !#~"), call("f"), call("chain"), call("true"), call("let"), call("sgd_"), call("rate"),
	} {
		for _, at := range []int{0, 6, -1, maxInt, minInt} {
			n.At = at
			holdTree(t, n, n)
			holdTree(t, call("f", n), call("f", n))
			holdTree(t, call("f", keyed("k", n)), call("f", keyed("k", n)))
			holdTree(t, placed(at, call("f", n, keyed("rate", n), keyed("rate", n), n, call("sgdx", n))), placed(at, call("f", n, keyed("rate", n), keyed("rate", n), n, call("sgdx", n))))
			holdTree(t, nest(maxDepth-1, "f", n), nest(maxDepth-1, "f", n))
		}
	}
	for _, text := range []string{"chain(clip(1.0), trace(0.9), scale(-0.1))", "masked(and(\"w\", not(all())), scale_by_adam(b2=0.9, 0.1))", "f(sgd, rate=adam, nesterov=false)"} {
		holdTree(t, read(text), read(text))
	}
}

// TestRowsDoNotJudge: AL2, what is given for an argument is asked neither its kind nor its range.
func TestRowsDoNotJudge(t *testing.T) {
	for _, one := range []api.Node{num(0xff7fffff), whole(-5), named("x"), text("w"), call("f"), call("all", whole(1))} {
		want := at7("chain(trace(x, y), scale(-1.0))")
		want.Args[0].Args[0], want.Args[0].Args[1] = placed(8, one), placed(9, one)
		want.Args[1].Args[0].At = 10
		holdTree(t, placed(7, call("sgd", placed(10, whole(1)), placed(8, one), placed(9, one))), want)
		holdTree(t, placed(7, call("sgd", keyed("momentum", placed(8, one)), keyed("nesterov", placed(9, one)), keyed("rate", placed(10, whole(1))))), want)
	}
}
