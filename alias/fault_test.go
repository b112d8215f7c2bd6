package alias

import (
	"strings"
	"testing"

	"lathe/api"
)

// TestUnknownKeys: AL2, a Key that the row does not have, also one that another row has.
func TestUnknownKeys(t *testing.T) {
	keys := strings.Fields("lr x rat rates rate_ b1 b2 b3 eps eps_root momentum nesterov mask weight_decay initial rho alpha beta clipping decay trust_coefficient learning_rate _ a1 sgd true false let chain")
	for name, l := range lines() {
		for _, key := range keys {
			n := placed(3, call(name, placed(4, num(0)), placed(5, keyed(key, whole(1)))))
			if strings.Contains(" "+strings.Join(l.names, " ")+" ", " "+key+" ") {
				if _, e, at := Expand(n); e != api.OK || at != 0 {
					t.Errorf("%s with %s: %d, %d", name, key, e, at)
				}
				continue
			}
			holdFault(t, n, errKey, 5)
			n.Args[0].Key = "rate"
			holdFault(t, n, errKey, 5)
			n.Args[0], n.Args[1] = n.Args[1], n.Args[0]
			holdFault(t, n, errKey, 5)
			holdFault(t, placed(3, call(name, placed(5, keyed(key, whole(1))))), errKey, 5)
		}
	}
}

// TestGivenTwice: AL2, each argument of each row given by name twice, and by place and then by name.
func TestGivenTwice(t *testing.T) {
	for name, l := range lines() {
		for i, key := range l.names {
			one, other := placed(5, keyed(key, whole(1))), placed(6, keyed(key, whole(1)))
			holdFault(t, placed(3, call(name, one, other)), errKey, 6)
			holdFault(t, placed(3, call(name, one, other, placed(7, keyed(key, whole(2))))), errKey, 6)
			if i > 0 {
				holdFault(t, placed(3, call(name, one, placed(4, keyed("rate", num(0))), other)), errKey, 6)
			}
			for count := range len(l.names) + 1 {
				n := call(name, append(many(count, placed(4, num(0))), other)...)
				if count > i {
					holdFault(t, n, errKey, 6)
				} else if _, e, _ := Expand(n); (e == api.OK) != (count > 0 || key == "rate") {
					t.Errorf("%s: %d", dump(n), e)
				}
			}
		}
	}
}

// TestBehindKeys: AL2, an argument without a Key behind one with a Key, also where it would be one too many.
func TestBehindKeys(t *testing.T) {
	for name, l := range lines() {
		for count := range len(l.names) {
			n := call(name, many(count, placed(4, num(0)))...)
			n.Args = append(n.Args, placed(5, keyed(l.names[count], whole(1))), placed(6, whole(1)), placed(7, whole(2)))
			holdFault(t, n, errKey, 6)
		}
	}
	holdTextFault(t, "sgd(0.1, momentum=0.9, true)", errKey, 23)
	holdTextFault(t, "sgd(rate=0.1, nesterov=true, 0.9)", errKey, 29)
	holdTextFault(t, "scale_by_learning_rate(rate=0.1, 0.9)", errKey, 33)
}

// TestTooMany: AL2, the first argument that is too many, however many stand behind it and of whatever kind it is.
func TestTooMany(t *testing.T) {
	for name, l := range lines() {
		n := call(name, many(len(l.names), placed(4, num(0)))...)
		for _, more := range []api.Node{num(0), whole(3), named("x"), text("w"), call("f"), call("adam"), call("sgd", whole(1))} {
			one := n
			one.Args = append(one.Args[:len(l.names):len(l.names)], placed(6, more))
			holdFault(t, one, errArity, 6)
			one.Args = append(one.Args, many(300, placed(7, more))...)
			holdFault(t, one, errArity, 6)
			one.Args = append(one.Args, keyed("x", named("x")))
			holdFault(t, one, errArity, 6)
		}
	}
}

// TestNoRate: AL2, a call without a rate, with all else or with nothing; behind its other faults.
func TestNoRate(t *testing.T) {
	for name, l := range lines() {
		n := placed(3, call(name))
		holdFault(t, n, errArity, 3)
		for i, key := range l.names[1:] {
			n.Args = append(n.Args, placed(10+i, keyed(key, named("x"))))
			holdFault(t, n, errArity, 3)
		}
		n.Args = append(n.Args, placed(30, keyed("x", named("x"))))
		holdFault(t, n, errKey, 30)
		n.Args[len(n.Args)-1].Key = "rate"
		if _, e, _ := Expand(n); e != api.OK {
			t.Errorf("%s: %d", dump(n), e)
		}
	}
}

// TestPlacesOfFaults: AL2, a fault's place is the At of its node, whatever that is.
func TestPlacesOfFaults(t *testing.T) {
	for _, at := range []int{0, 1, -1, 1 << 40, maxInt, minInt} {
		holdFault(t, placed(at, call("adam")), errArity, at)
		holdFault(t, call("f", placed(at, call("adam"))), errArity, at)
		holdFault(t, call("f", keyed("k", placed(at, call("adam")))), errArity, at)
		holdFault(t, call("sgd", whole(1), placed(at, keyed("x", whole(1)))), errKey, at)
		holdFault(t, call("sgd", whole(1), whole(1), whole(1), placed(at, whole(1))), errArity, at)
		holdFault(t, call("sgd", keyed("rate", whole(1)), placed(at, whole(1))), errKey, at)
	}
}

// TestFirstFault: AL2, of several faults the first in the order of nodes: a call's own are told at the call, ahead of those in its arguments.
func TestFirstFault(t *testing.T) {
	for _, c := range []struct {
		text string
		want api.Errno
		at   int
	}{
		{"chain(adam(), sgd(x=1))", errArity, 6},
		{"chain(sgd(x=1), adam())", errKey, 12},
		{"chain(f(adam()), sgd(x=1))", errArity, 8},
		{"chain(f(f(f(f(sgd(x=1))))), adam())", errKey, 20},
		{"adam(adam(), lr=2)", errKey, 16},
		{"adam(sgd(x=1), b1=adam())", errKey, 11},
		{"adam(sgd(1, x=1), b1=adam())", errKey, 14},
		{"adam(b1=adam())", errArity, 0},
		{"adam(b1=sgd(x=1))", errArity, 0},
		{"adam(f(adam()), 1, 2, 3, 4, 5)", errArity, 28},
		{"adam(rate=adam(), 1)", errKey, 18},
		{"adam(adam(), b1=1, b1=2)", errKey, 22},
		{"adam(x=1, rate=1, 2, 3)", errKey, 7},
		{"adam(x=1, y=1)", errKey, 7},
		{"adam(rate=1, 2, x=1)", errKey, 13},
		{"adam(1, 2, 3, 4, 5, 6, x=1)", errArity, 20},
		{"adam(1, 2, 3, 4, 5, x=1, 6)", errKey, 22},
		{"adam(b1=1, 2)", errKey, 11},
		{"adam(b1=1, b1=2)", errKey, 14},
		{"f(adam(1), sgd(1, f(adam()), true), adam(q=1))", errArity, 20},
		{"f(sgd(1, f(adam(q=1)), x=1), adam())", errKey, 25},
		{"sgd(sgd(sgd()))", errArity, 8},
		{"sgd(sgd(sgd(sgd(), z=1)))", errKey, 21},
		{"sgd(f(sgd()), nesterov=sgd(x=1))", errArity, 6},
	} {
		holdTextFault(t, c.text, c.want, c.at)
		holdTextFault(t, "let q9 = 1; "+c.text, c.want, c.at+12)
		holdTextFault(t, "f("+c.text+")", c.want, c.at+2)
		holdTextFault(t, "f(k="+c.text+", adam(), sgd(x=1))", c.want, c.at+4)
		holdTextFault(t, "sgd(1, "+c.text+")", c.want, c.at+7)
	}
}

// TestAllFaults: AL2, calls with few arguments of all kinds, by place and by name, against the chapter's words.
func TestAllFaults(t *testing.T) {
	given := []api.Node{whole(1), call("adam"), call("sgd", num(0x3f000000)), keyed("rate", named("r")), keyed("rate", call("sgd", keyed("x", whole(1)))), keyed("momentum", whole(2)), keyed("eps", call("lion", whole(1))), keyed("x", num(0))}
	count := map[api.Errno]int{}
	var grow func(api.Node, int)
	grow = func(n api.Node, left int) {
		if t.Failed() {
			return
		}
		count[holdTold(t, numbered(5, n))]++
		holdTold(t, numbered(5, call("f", whole(1), n)))
		if left == 0 {
			return
		}
		for _, one := range given {
			grow(call(n.Name, append(n.Args[:len(n.Args):len(n.Args)], one)...), left-1)
		}
	}
	for _, name := range []string{"sgd", "adadelta", "scale_by_learning_rate", "agc", "trace"} {
		grow(call(name), 4)
	}
	if count[api.OK] < 100 || count[errKey] < 1000 || count[errArity] < 1000 {
		t.Errorf("%v: that tells too little", count)
	}
}
