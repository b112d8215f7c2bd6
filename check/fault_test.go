package check

import (
	"strings"
	"testing"

	"lathe/alias"
	"lathe/api"
)

// TestKeysAndCounts: CH2, in each row: a Key that it has not, one given twice, one for what was given by place, an argument without a Key
// behind one with a Key, one too many, one that is wanting.
func TestKeysAndCounts(t *testing.T) {
	eachRow(func(s spec, isSchedule bool) {
		if len(s.more) > 0 {
			return
		}
		full, count := fullCall(s), len(s.once)
		hold := func(e api.Errno, fault int, args ...api.Node) {
			t.Helper()
			n := numbered(0, wrapped(call(s.name, args...), isSchedule))
			c := n
			if isSchedule {
				c = n.Args[0]
			}
			at := c.At
			if fault >= 0 {
				at = c.Args[fault].At
			}
			holdFault(t, n, reals(), e, at)
		}
		hold(errKey, count, append(fullCall(s).Args, keyed("q", wholeOf(1)))...)
		hold(errArity, count, append(fullCall(s).Args, wholeOf(1))...)
		hold(errArity, count, append(fullCall(s).Args, call("foo"), keyed("q", wholeOf(1)))...)
		hold(errKey, 0, append([]api.Node{keyed("q", wholeOf(1))}, full.Args...)...)
		for i, o := range s.once {
			hold(errKey, count, append(fullCall(s).Args, keyed(o.name, full.Args[i]))...)
			hold(errKey, 1, keyed(o.name, full.Args[i]), keyed(o.name, full.Args[i]))
			hold(errKey, 1, keyed(o.name, full.Args[i]), full.Args[i])
			if !o.hasValue {
				hold(errArity, -1, keyedBut(s, i)...)
				hold(errArity, -1, full.Args[:i]...)
			}
		}
	})
}

// keyedBut are all arguments of a row by name, but one.
func keyedBut(s spec, but int) []api.Node {
	var args []api.Node
	for i, a := range fullCall(s).Args {
		if i != but {
			args = append(args, keyed(s.once[i].name, a))
		}
	}
	return args
}

// TestCountsInTurns: CH2, rows with '..': the least count, more, one too few, one that can't be; a Key among them.
func TestCountsInTurns(t *testing.T) {
	for _, name := range []string{"chain", "partition", "piecewise", "join"} {
		s, isSchedule := specOf(theTransforms(), name)
		if isSchedule = !isSchedule; isSchedule {
			s, _ = specOf(theSchedules(), name)
		}
		for count := range 30 {
			slots, _ := s.slots(max(count, 3) | 1)
			if name == "chain" {
				slots, _ = s.slots(max(count, 1))
			}
			n := call(name)
			for i := range count {
				n.Args = append(n.Args, sampleOf(slots[i], i%8))
				if slots[i].bounds == "rising" {
					n.Args[i].Int = i
				}
			}
			e := errArity
			if name == "chain" && count >= 1 || name != "chain" && count >= 3 && count%2 == 1 {
				e = api.OK
			}
			holdTold(t, wrapped(n, isSchedule), reals(), e)
			for i := range count {
				for _, key := range []string{"q", "from", "at", "factor", "mask", "transform", "schedule", "inner"} {
					args := append([]api.Node{}, n.Args...)
					args[i].Key = key
					holdTold(t, wrapped(call(name, args...), isSchedule), reals(), errKey)
				}
			}
		}
	}
}

// TestBoundaries: CH2, those of piecewise and join rise from 1 on.
func TestBoundaries(t *testing.T) {
	for _, c := range []struct {
		bounds []int
		fault  int // the first one that can't be, or -1
	}{
		{[]int{1}, -1}, {[]int{maxCount}, -1}, {[]int{0}, 0}, {[]int{-1}, 0}, {[]int{-maxCount}, 0},
		{[]int{1, 2}, -1}, {[]int{1, maxCount}, -1}, {[]int{maxCount - 1, maxCount}, -1},
		{[]int{1, 1}, 1}, {[]int{2, 1}, 1}, {[]int{maxCount, maxCount}, 1}, {[]int{5, 0}, 1}, {[]int{5, -7}, 1}, {[]int{0, 0}, 0},
		{[]int{1, 2, 3, 4, 5}, -1}, {[]int{3, 5, 4}, 2}, {[]int{3, 5, 5}, 2}, {[]int{3, 5, 2}, 2}, {[]int{3, 5, 6, 7, 1}, 4}, {[]int{3, 2, 1}, 1}, {[]int{1, 3, 2, 4}, 2},
	} {
		for _, name := range []string{"piecewise", "join"} {
			n := call(name, wholeOf(9))
			for _, b := range c.bounds {
				n.Args = append(n.Args, wholeOf(b), wholeOf(9))
			}
			n = numbered(0, call("scale_by_schedule", n))
			if c.fault < 0 {
				holdTold(t, n, wz(), api.OK)
			} else {
				holdFault(t, n, wz(), errValue, n.Args[0].Args[1+2*c.fault].At)
			}
		}
	}
}

// TestWarmup: CH2, it is join(linear(0.0, peak, steps), steps, then).
func TestWarmup(t *testing.T) {
	for _, c := range [][2]string{
		{"warmup(0.1, 2, constant(0.1))", "join(linear(0.0, 0.1, 2), 2, constant(0.1))"},
		{"warmup(-3, 2147483647, 7)", "join(linear(0.0, -3, 2147483647), 2147483647, 7)"},
		{"warmup(-0.0, 1, warmup(1, 1, 1.5))", "join(linear(0.0, -0.0, 1), 1, join(linear(0.0, 1, 1), 1, 1.5))"},
		{"warmup(then=cosine(1.0, 9), steps=3, peak=2)", "join(linear(0.0, 2, 3), 3, cosine(1.0, 9))"},
	} {
		want, e, at := Check(read("scale_by_schedule("+c[1]+")"), wz())
		if e != api.OK {
			t.Errorf("%s: %d at %d", c[1], e, at)
		}
		holdTyped(t, read("scale_by_schedule("+c[0]+")"), wz(), dump(want))
	}
	for _, c := range []struct {
		program string
		e       api.Errno
		at      int
	}{
		{"scale_by_schedule(warmup(1.0, 0, 1))", errValue, 30},
		{"scale_by_schedule(warmup(1.0, 1.0, 1))", errType, 30},
		{"scale_by_schedule(warmup(1.0, 1))", errArity, 18},
		{"scale_by_schedule(warmup(1.0, 1, 2, 3))", errArity, 36},
		{"scale_by_schedule(warmup(1.0, 1, foo()))", errName, 33},
		{"scale_by_schedule(warmup(constant(1), 1, foo()))", errType, 25},
	} {
		holdFault(t, read(c.program), wz(), c.e, c.at)
	}
}

// TestNamesOfOthers: CH2, a name that is none where a transform or a schedule stands.
func TestNamesOfOthers(t *testing.T) {
	for _, s := range theSchedules() {
		holdFault(t, placed(7, fullCall(s)), reals(), errName, 7)
		holdTold(t, call("chain", call("identity"), fullCall(s)), reals(), errName)
	}
	for _, s := range theTransforms() {
		holdTold(t, call("scale_by_schedule", fullCall(s)), reals(), errName)
		holdTold(t, call("scale_by_schedule", call("plus", wholeOf(1), fullCall(s))), reals(), errName)
	}
	for _, name := range []string{"all", "none", "real", "complex", "not", "and", "or", "foo", "chain_", "scal", "scale_", "true"} {
		holdFault(t, placed(7, call(name)), reals(), errName, 7)
		holdTold(t, call("scale_by_schedule", call(name, wholeOf(1))), reals(), errName)
	}
	for _, name := range alias.Names() {
		holdTold(t, call("scale_by_schedule", call(name, wholeOf(1))), reals(), errName)
		holdTold(t, call("chain", call(name, wholeOf(0))), reals(), api.OK)
		holdTold(t, call("masked", call(name, wholeOf(0)), call("identity")), reals(), errMask)
	}
	for _, n := range []api.Node{num(0), wholeOf(1), named("identity"), named("true"), text("w")} {
		holdFault(t, placed(7, n), reals(), errType, 7)
		holdTold(t, call("chain", call("identity"), n), reals(), errType)
	}
}

// TestOrderOfFaults: CH2, which of several faults is told.
func TestOrderOfFaults(t *testing.T) {
	for _, c := range []struct {
		program string
		e       api.Errno
		at      int
	}{
		// how the arguments are given comes ahead of what they are
		{`scale("w", 1)`, errArity, 11},
		{"scale(foo(), x=1)", errKey, 15},
		{"chain(foo(), x=bar())", errKey, 15},
		{"trace(nesterov=1, x=2)", errKey, 20},
		{"trace(nesterov=1)", errArity, 0},
		{"partition(1, 2)", errArity, 0},
		{"partition(1, 2, x=3)", errKey, 18},
		{"multi_steps(0)", errArity, 0},
		{"until(0, foo(), 1, 2)", errArity, 19},
		{"trace(x=1, 0.5)", errKey, 8},
		{"trace(0.5, true, 1, x=1)", errArity, 17},
		{"trace(0.5, true, x=1, 1)", errKey, 19},
		// the row's order, not the text's
		{"trace(nesterov=1, decay=2)", errValue, 24},
		{"trace(nesterov=1, decay=true)", errType, 24},
		{"trace(nesterov=1, decay=0.5)", errType, 15},
		{"masked(inner=foo(), mask=1)", errType, 25},
		{`masked(inner=foo(), mask="q")`, errNone, 25},
		{`masked(inner=foo(), mask="w")`, errName, 13},
		{"scale_by_adam(eps_root=-1, eps=-1, b2=1.0, b1=0)", errValue, 38},
		{"until(then=foo(), first=scale(), steps=0)", errValue, 39},
		{"until(then=foo(), first=scale(), steps=1)", errArity, 24},
		{"skip_large(max_norm=0, inner=1)", errType, 29},
		{"apply_if_finite(foo(), -1)", errName, 16},
		{"apply_if_finite(identity(), -1)", errValue, 28},
		{"scale_by_schedule(hold(foo(), -1))", errName, 23},
		{"scale_by_schedule(linear(to=foo(), from=1, steps=0))", errType, 28},
		{"scale_by_schedule(linear(begin=-1, to=1, from=1, steps=0))", errValue, 55},
		{"scale_by_schedule(exponential(rate=0, steps=0, from=1))", errValue, 44},
		// one argument ahead of the other, all of it
		{"chain(scale(x=1), foo())", errKey, 14},
		{"chain(chain(identity(), scale()), foo())", errArity, 24},
		{"chain(scale_by_schedule(plus(foo(), 1)), bar())", errName, 29},
		{"scale_by_schedule(plus(constant(), foo()))", errArity, 23},
		{"scale_by_schedule(join(1, 0, foo()))", errValue, 26},
		{"scale_by_schedule(join(1, 1, foo(), 1, 2))", errName, 29},
		{"scale_by_schedule(piecewise(1, 2, true, 1, 1))", errType, 34},
		// what is within comes ahead of the node's own ErrComplex
		{"clip(-1.0)", errValue, 5},
		{"clip(true)", errType, 5},
		{"clip()", errArity, 0},
		{"clip(1.0, 2)", errArity, 10},
		{"scale_by_lion(0.5, 1)", errValue, 19},
		{"chain(clip(1.0), foo())", errComplex, 6},
		{"chain(foo(), clip(1.0))", errName, 6},
		{"multi_steps(0, clip(1.0))", errValue, 12},
		{"apply_if_finite(clip(1.0), -1)", errComplex, 16},
		{`masked("q", clip(1.0))`, errNone, 7},
		{`partition("w", clip(1.0), "q", foo(), 1)`, errNone, 26},
		{`partition("w", clip(1.0), "z", foo(), 1)`, errName, 31},
	} {
		holdFault(t, read(c.program), wz(), c.e, c.at)
	}
}

// TestFirstErrors: CH2, those of sign.Check, tree.Check and alias.Expand, in this order, and ahead of all others.
func TestFirstErrors(t *testing.T) {
	long := strings.Repeat("n", 65)
	twice := []api.Param{{Name: "w", Kind: 1, Len: 1}, {Name: "w", Kind: 1, Len: 1}}
	badTree := placed(9, call("F"))
	for _, c := range []struct {
		n    api.Node
		list []api.Param
		e    api.Errno
		at   int
	}{
		{read("scale(2)"), make([]api.Param, 65), errLong, 0},
		{badTree, []api.Param{{Name: "w", Kind: 3, Len: 1}}, errParam, 0},
		{badTree, []api.Param{{}}, errParam, 0},
		{placed(9, call("adam")), twice, errTwice, 0},
		{placed(9, call("foo")), overfull(), errTotal, 0},
		{badTree, wz(), errTree, 9},
		{placed(9, api.Node{}), wz(), errTree, 9},
		{placed(9, call("f", placed(12, call("F")))), wz(), errTree, 9},
		{placed(9, call(long)), wz(), errLong, 9},
		{placed(9, call("adam", placed(11, api.Node{}))), wz(), errTree, 9},
		{placed(9, keyed("k", call("identity"))), wz(), errTree, 9},
		{placed(9, num(0x7f800000)), wz(), errTree, 9},
		{placed(9, call("scale", num(0x7fc00000))), wz(), errTree, 9},
		{placed(9, nested(maxDepth+1)), wz(), errDeep, 9},
		{placed(9, call("chain", manyOf(maxNodes, call("identity"))...)), wz(), errMany, 9},
		{read("adam()"), wz(), errArity, 0},
		{read("chain(foo(), adam())"), wz(), errArity, 13},
		{read("chain(foo(x=1), adam(0.1, lr=2))"), wz(), errKey, 29},
		{read("chain(foo(), sgd(rate=0.1, 0.9))"), wz(), errKey, 27},
		{read("let a = adam(); let b = 1; scale(b)"), wz(), api.OK, 0},
		{read("let a = adam(); chain(scale(), a)"), wz(), errArity, 31},
	} {
		if c.e == api.OK {
			holdTold(t, c.n, c.list, api.OK)
		} else {
			holdFault(t, c.n, c.list, c.e, c.at)
		}
	}
}

// overfull is a signature with too many numbers.
func overfull() []api.Param {
	var list []api.Param
	for i := range 17 {
		list = append(list, api.Param{Name: string(rune('a' + i)), Kind: 1, Len: 4096})
	}
	return list
}

// nested is a tree of transforms of that depth.
func nested(depth int) api.Node {
	n := call("identity")
	for range depth - 1 {
		n = call("chain", n)
	}
	return n
}

func manyOf(count int, n api.Node) []api.Node {
	list := make([]api.Node, count)
	for i := range list {
		list[i] = n
	}
	return list
}
