package alias

import (
	"slices"
	"strconv"
	"strings"
	"testing"

	"lathe/api"
)

// rates are what LR(rate) is where the rate is the name rate.
const rates = "chain(scale_by_schedule(rate), scale(-1.0))"

// TestAllArguments: AL2, each row with all of its arguments by place, as the table has them: a name for each, which stays.
func TestAllArguments(t *testing.T) {
	for _, c := range [][2]string{
		{"scale_by_learning_rate(rate)", "LR"},
		{"sgd(rate, momentum, nesterov)", "chain(trace(momentum, nesterov), LR)"},
		{"adam(rate, b1, b2, eps, eps_root)", "chain(scale_by_adam(b1, b2, eps, eps_root), LR)"},
		{"adamw(rate, b1, b2, eps, eps_root, weight_decay, mask)", "chain(scale_by_adam(b1, b2, eps, eps_root), masked(mask, add_decayed_weights(weight_decay)), LR)"},
		{"amsgrad(rate, b1, b2, eps, eps_root)", "chain(scale_by_amsgrad(b1, b2, eps, eps_root), LR)"},
		{"adabelief(rate, b1, b2, eps, eps_root)", "chain(scale_by_belief(b1, b2, eps, eps_root), LR)"},
		{"yogi(rate, b1, b2, eps, initial)", "chain(scale_by_yogi(b1, b2, eps, initial), LR)"},
		{"adadelta(rate, rho, eps)", "chain(scale_by_adadelta(rho, eps), LR)"},
		{"adamax(rate, b1, b2, eps)", "chain(scale_by_adamax(b1, b2, eps), LR)"},
		{"novograd(rate, b1, b2, eps, eps_root, weight_decay)", "chain(scale_by_novograd(b1, b2, eps, eps_root, weight_decay), LR)"},
		{"optimistic(rate, alpha, beta)", "chain(scale_by_optimistic_gradient(alpha, beta), LR)"},
		{"agc(rate, clipping, eps, momentum, nesterov)", "chain(adaptive_grad_clip(clipping, eps), trace(momentum, nesterov), LR)"},
		{"adagrad(rate, initial, eps)", "chain(scale_by_rss(initial, eps), LR)"},
		{"rmsprop(rate, decay, eps, initial, momentum)", "chain(scale_by_rms(decay, eps, initial), LR, trace(momentum, false))"},
		{"lion(rate, b1, b2, weight_decay, mask)", "chain(scale_by_lion(b1, b2), masked(mask, add_decayed_weights(weight_decay)), LR)"},
		{"lamb(rate, b1, b2, eps, eps_root, weight_decay, mask)", "chain(scale_by_adam(b1, b2, eps, eps_root), masked(mask, add_decayed_weights(weight_decay)), scale_by_trust_ratio(0.0, 1.0, 0.0), LR)"},
		{"lars(rate, weight_decay, trust_coefficient, eps, momentum, nesterov)", "chain(add_decayed_weights(weight_decay), scale_by_trust_ratio(0.0, trust_coefficient, eps), LR, trace(momentum, nesterov))"},
	} {
		want := strings.ReplaceAll(c[1], "LR", rates)
		holdText(t, c[0], want)
		holdEachOrder(t, read(c[0]), read(want))
		holdTextFault(t, c[0][:len(c[0])-1]+", 1)", errArity, len(c[0])+1)
		holdTextFault(t, c[0][:len(c[0])-1]+", rate=1)", errKey, len(c[0])+6)
	}
}

// orders yields all orders of so many things.
func orders(count int, yield func([]int)) {
	var next func([]int)
	next = func(so []int) {
		if len(so) == count {
			yield(so)
			return
		}
		for i := range count {
			if !slices.Contains(so, i) {
				next(append(slices.Clone(so), i))
			}
		}
	}
	next(nil)
}

// holdEachOrder: AL2, a call whose arguments are names, each that of what it is given for: they become the same in every order by name, and with
// some by place and the rest by name.
func holdEachOrder(t *testing.T, n, want api.Node) {
	t.Helper()
	orders(len(n.Args), func(order []int) {
		if t.Failed() {
			return
		}
		byName := call(n.Name)
		for _, i := range order {
			byName.Args = append(byName.Args, keyed(n.Args[i].Name, n.Args[i]))
		}
		holdSame(t, byName, want)
		for i := range order {
			if order[i] != i {
				break
			}
			byName.Args[i].Key = ""
			holdSame(t, byName, want)
		}
	})
}

// holdSame: what a tree becomes is another one, but for places.
func holdSame(t *testing.T, n, want api.Node) {
	t.Helper()
	if got, e, at := Expand(n); dump(level(0, got)) != dump(level(0, want)) || e != api.OK || at != 0 {
		t.Errorf("Expand of %s: %s, %d, %d, not %s", brief(dump(n)), brief(dump(got)), e, at, brief(dump(want)))
	}
}

// TestLeastArguments: AL2, each row with the rate alone, by place and by name.
func TestLeastArguments(t *testing.T) {
	for name, want := range map[string]string{
		"scale_by_learning_rate": "scale(-0.5)",
		"sgd":                    "chain(trace(0.0, false), scale(-0.5))",
		"adam":                   "chain(scale_by_adam(0.9, 0.999, 1e-8, 0.0), scale(-0.5))",
		"adamw":                  "chain(scale_by_adam(0.9, 0.999, 1e-8, 0.0), masked(all(), add_decayed_weights(1e-4)), scale(-0.5))",
		"amsgrad":                "chain(scale_by_amsgrad(0.9, 0.999, 1e-8, 0.0), scale(-0.5))",
		"adabelief":              "chain(scale_by_belief(0.9, 0.999, 1e-16, 1e-16), scale(-0.5))",
		"yogi":                   "chain(scale_by_yogi(0.9, 0.999, 1e-3, 1e-6), scale(-0.5))",
		"adadelta":               "chain(scale_by_adadelta(0.9, 1e-6), scale(-0.5))",
		"adamax":                 "chain(scale_by_adamax(0.9, 0.999, 1e-8), scale(-0.5))",
		"novograd":               "chain(scale_by_novograd(0.9, 0.25, 1e-6, 0.0, 0.0), scale(-0.5))",
		"optimistic":             "chain(scale_by_optimistic_gradient(1.0, 1.0), scale(-0.5))",
		"agc":                    "chain(adaptive_grad_clip(0.1, 1e-3), trace(0.0, false), scale(-0.5))",
		"adagrad":                "chain(scale_by_rss(0.1, 1e-7), scale(-0.5))",
		"rmsprop":                "chain(scale_by_rms(0.9, 1e-8, 0.0), scale(-0.5), trace(0.0, false))",
		"lion":                   "chain(scale_by_lion(0.9, 0.99), masked(all(), add_decayed_weights(1e-3)), scale(-0.5))",
		"lamb":                   "chain(scale_by_adam(0.9, 0.999, 1e-6, 0.0), masked(all(), add_decayed_weights(0.0)), scale_by_trust_ratio(0.0, 1.0, 0.0), scale(-0.5))",
		"lars":                   "chain(add_decayed_weights(0.0), scale_by_trust_ratio(0.0, 1e-3, 0.0), scale(-0.5), trace(0.9, false))",
	} {
		holdText(t, name+"(0.5)", want)
		holdText(t, name+"(rate=0.5)", want)
	}
}

// TestValues: AL2, each value that may be left out as its pattern, in the order in which they stand in the expansion.
func TestValues(t *testing.T) {
	for name, want := range map[string]string{
		"sgd":        "0 bf000000",
		"adam":       "3f666666 3f7fbe77 322bcc77 0 bf000000",
		"adamw":      "3f666666 3f7fbe77 322bcc77 0 38d1b717 bf000000",
		"amsgrad":    "3f666666 3f7fbe77 322bcc77 0 bf000000",
		"adabelief":  "3f666666 3f7fbe77 24e69595 24e69595 bf000000",
		"yogi":       "3f666666 3f7fbe77 3a83126f 358637bd bf000000",
		"adadelta":   "3f666666 358637bd bf000000",
		"adamax":     "3f666666 3f7fbe77 322bcc77 bf000000",
		"novograd":   "3f666666 3e800000 358637bd 0 0 bf000000",
		"optimistic": "3f800000 3f800000 bf000000",
		"agc":        "3dcccccd 3a83126f 0 bf000000",
		"adagrad":    "3dcccccd 33d6bf95 bf000000",
		"rmsprop":    "3f666666 322bcc77 0 bf000000 0",
		"lion":       "3f666666 3f7d70a4 3a83126f bf000000",
		"lamb":       "3f666666 3f7fbe77 358637bd 0 0 0 3f800000 0 bf000000",
		"lars":       "0 0 3a83126f 0 bf000000 3f666666",
	} {
		n, _, _ := Expand(call(name, num(0x3f000000)))
		var got []string
		for _, m := range inOrder(n) {
			if m.Kind == nodeNumber {
				got = append(got, strconv.FormatUint(uint64(m.Num), 16))
			}
		}
		if strings.Join(got, " ") != want {
			t.Errorf("the numbers of %s: %v, not %s", name, got, want)
		}
	}
	n, _, _ := Expand(call("scale_by_learning_rate", named("x")))
	if last := n.Args[1].Args[0]; last.Kind != nodeNumber || last.Num != 0xbf800000 {
		t.Error(dump(n))
	}
}

// TestEachLeftOut: AL2, each row with each choice of its arguments by name: the others have their values.
func TestEachLeftOut(t *testing.T) {
	for name, l := range lines() {
		for choice := range 1 << len(l.names) {
			n := call(name)
			for i, key := range l.names {
				if choice>>i&1 == 1 {
					n.Args = append(n.Args, keyed(key, call("given", whole(i))))
				}
			}
			n = numbered(70, n)
			if choice&1 == 0 {
				holdFault(t, n, errArity, 70)
				continue
			}
			want, _, _ := told(n)
			holdTree(t, n, want)
			n.Args[0].Key = ""
			holdTree(t, n, want)
			slices.Reverse(n.Args[1:])
			holdTree(t, n, want)
		}
	}
}

// holdRate: AL2, what the rate becomes in each row, as the whole of what scale_by_learning_rate becomes.
func holdRate(t *testing.T, rate, want api.Node) {
	t.Helper()
	rate, want = placed(44, rate), placed(7, want)
	holdTree(t, placed(7, call("scale_by_learning_rate", rate)), want)
	for name, at := range map[string]int{
		"sgd": 1, "adam": 1, "adamw": 2, "amsgrad": 1, "adabelief": 1, "yogi": 1, "adadelta": 1, "adamax": 1,
		"novograd": 1, "optimistic": 1, "agc": 2, "adagrad": 1, "rmsprop": 1, "lion": 2, "lamb": 3, "lars": 2,
	} {
		n, e, _ := Expand(placed(7, call(name, rate)))
		if e != api.OK || at >= len(n.Args) || dump(n.Args[at]) != dump(want) {
			t.Errorf("%s of %s: %s, %d", name, dump(rate), dump(n), e)
		}
	}
}

// TestRates: AL2, LR(rate) of numbers, whole numbers, names, texts and calls, in each row.
func TestRates(t *testing.T) {
	for _, bits := range []api.F{0x3dcccccd, 0x3f800000, 0, 0x80000000, 1, 0x80000001, 0x7fffff, 0x7f7fffff, 0xff7fffff, 0xbf800000} {
		holdRate(t, num(bits), call("scale", placed(44, num(bits^0x80000000))))
	}
	for value, bits := range map[int]api.F{0: 0x80000000, 1: 0xbf800000, -1: 0x3f800000, 2: 0xc0000000, 10: 0xc1200000, 16777217: 0xcb800000, 16777219: 0xcb800002, -16777217: 0x4b800000, maxCount: 0xcf000000, -maxCount: 0x4f000000} {
		holdRate(t, whole(value), call("scale", placed(44, num(bits))))
	}
	for _, rate := range []api.Node{named("rate"), named("false"), named("sgd"), named("x"), text("w*"), text(""), call("constant", placed(46, num(0x3f000000))), call("f"), call("linear", placed(48, keyed("end", whole(3))), placed(50, whole(4)))} {
		holdRate(t, rate, call("chain", placed(7, call("scale_by_schedule", placed(44, rate))), placed(7, call("scale", placed(7, num(0xbf800000))))))
	}
}

// TestRatesThatMayNotBe: AL2, numbers whose negation is infinite or no number, and whole numbers beyond the limit, are refused by tree.Check.
func TestRatesThatMayNotBe(t *testing.T) {
	for name := range lines() {
		for _, bits := range []api.F{0x7f800000, 0xff800000, 0x7fc00000, 0xffc00000, 0x7f800001, 0xffffffff} {
			holdFault(t, placed(7, call(name, placed(44, num(bits)))), errTree, 7)
		}
		for _, value := range []int{maxCount + 1, -maxCount - 1, maxInt, minInt} {
			holdFault(t, placed(7, call(name, placed(44, whole(value)))), errTree, 7)
		}
	}
}
