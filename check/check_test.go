package check

import (
	"fmt"
	"slices"
	"strings"
	"testing"

	"lathe/api"
	"lathe/parse"
	"lathe/print"
)

// Limits, kinds and errors as the document has them.
const (
	maxDepth = 64
	maxNodes = 4096
	maxCount = 2147483647
	maxPower = 1024

	nodeCall   = 1
	nodeNumber = 2
	nodeWhole  = 3
	nodeName   = 4
	nodeText   = 5
	nodeLet    = 6

	errArg     api.Errno = 1
	errLong    api.Errno = 2
	errTree    api.Errno = 70
	errDeep    api.Errno = 81
	errMany    api.Errno = 82
	errParam   api.Errno = 100
	errTwice   api.Errno = 101
	errTotal   api.Errno = 102
	errMask    api.Errno = 110
	errNone    api.Errno = 111
	errName    api.Errno = 130
	errArity   api.Errno = 131
	errKey     api.Errno = 132
	errType    api.Errno = 133
	errValue   api.Errno = 134
	errComplex api.Errno = 135
)

func call(name string, args ...api.Node) api.Node {
	return api.Node{Kind: nodeCall, Name: name, Args: args}
}

func num(x api.F) api.Node { return api.Node{Kind: nodeNumber, Num: x} }

func wholeOf(n int) api.Node { return api.Node{Kind: nodeWhole, Int: n} }

func named(name string) api.Node { return api.Node{Kind: nodeName, Name: name} }

func text(s string) api.Node { return api.Node{Kind: nodeText, Name: s} }

func keyed(key string, n api.Node) api.Node {
	n.Key = key
	return n
}

func placed(at int, n api.Node) api.Node {
	n.At = at
	return n
}

// numbered is the tree with a place of its own for each node, from one on.
func numbered(from int, n api.Node) api.Node {
	next := from
	var walk func(api.Node) api.Node
	walk = func(n api.Node) api.Node {
		n.At = next
		next++
		n.Args = slices.Clone(n.Args)
		for i := range n.Args {
			n.Args[i] = walk(n.Args[i])
		}
		return n
	}
	return walk(n)
}

// read is the tree of a text that parse takes.
func read(program string) api.Node {
	n, e, at := parse.Parse(program)
	if e != api.OK {
		panic(fmt.Sprint(program, ": ", e, " at ", at))
	}
	return n
}

// wz is the signature of the chapter's examples.
func wz() []api.Param {
	return []api.Param{{Name: "w", Kind: 1, Len: 3}, {Name: "z", Kind: 2, Len: 2}}
}

// reals is a signature without complex parameters.
func reals() []api.Param {
	return []api.Param{{Name: "w", Kind: 1, Len: 3}, {Name: "b", Kind: 1, Len: 1}}
}

// dump is all of a transform as a text: its Op, [Nums], {Ints}, a <> for each mask, @ and the schedule, and (Kids).
func dump(t api.Tx) string {
	out := fmt.Sprint(t.Op) + lists(t.Nums, t.Ints)
	for _, m := range t.Masks {
		out += "<" + strings.Trim(fmt.Sprint(m), "[]") + ">"
	}
	if s := dumpSched(t.Sched); s != "0" {
		out += "@" + s
	}
	var kids []string
	for _, k := range t.Kids {
		kids = append(kids, dump(k))
	}
	return out + inBrackets(kids)
}

func dumpSched(s api.Sched) string {
	var kids []string
	for _, k := range s.Kids {
		kids = append(kids, dumpSched(k))
	}
	return fmt.Sprint(s.Op) + lists(s.Nums, s.Ints) + inBrackets(kids)
}

func lists(nums []api.F, ints []int) string {
	out := ""
	if len(nums) > 0 {
		out += strings.ReplaceAll(fmt.Sprintf("%08x", nums), "0x", "")
	}
	if len(ints) > 0 {
		out += "{" + strings.Trim(fmt.Sprint(ints), "[]") + "}"
	}
	return out
}

func inBrackets(kids []string) string {
	if len(kids) == 0 {
		return ""
	}
	return "(" + strings.Join(kids, " ") + ")"
}

// brief is the beginning of a text.
func brief(s string) string {
	if len(s) > 300 {
		return s[:300] + " .."
	}
	return s
}

// show is a tree as a text, or all of it where it has none, and its place.
func show(n api.Node) string {
	s, e := print.Print(n)
	if e != api.OK {
		s = fmt.Sprintf("%+v", n)
	}
	return brief(s) + " at " + fmt.Sprint(n.At)
}

// holdTyped: Check answers that typed program, and Valid takes it.
func holdTyped(t *testing.T, n api.Node, list []api.Param, want string) {
	t.Helper()
	got, e, at := Check(n, list)
	if e != api.OK || at != 0 || dump(got) != want {
		t.Errorf("Check(%s) = %s, %d, %d, want %s", show(n), brief(dump(got)), e, at, brief(want))
	}
	if e := Valid(got, list); e != api.OK {
		t.Errorf("Valid of what Check answers to %s: %d", show(n), e)
	}
}

// holdFault: Check answers the error and the place, and no typed program.
func holdFault(t *testing.T, n api.Node, list []api.Param, e api.Errno, at int) {
	t.Helper()
	got, gotError, gotAt := Check(n, list)
	if gotError != e || gotAt != at || dump(got) != "0" {
		t.Errorf("Check(%s) = %s, %d, %d, want %d, %d", show(n), brief(dump(got)), gotError, gotAt, e, at)
	}
}

// TestExamples: CH2, the chapter's.
func TestExamples(t *testing.T) {
	for program, want := range map[string]string{
		"scale(2)":                            "2[40000000]",
		"scale(factor=2)":                     "2[40000000]",
		"split_real_and_imaginary(clip(1.0))": "28(4[3f800000])",
		`masked("w", clip(1.0))`:              "24<0>(4[3f800000])",
		"scale_by_schedule(0.1)":              "3@1[3dcccccd]",
	} {
		holdTyped(t, read(program), wz(), want)
	}
	for _, c := range []struct {
		program string
		e       api.Errno
		at      int
	}{
		{"scale()", errArity, 0},
		{"scale(1, 2)", errArity, 9},
		{"scale(x=1)", errKey, 8},
		{"clip(1.0)", errComplex, 0},
		{`masked("q*", identity())`, errNone, 7},
		{"trace(1.5)", errValue, 6},
		{"chain()", errArity, 0},
		{"foo()", errName, 0},
		// those of the whole document
		{"chain(scale(2), foo())", errName, 16},
		{`masked("q", identity())`, errNone, 7},
		{"clip_by_global_norm(0.0)", errValue, 20},
		{"adam(0.1, lr=2)", errKey, 13},
		{"let a = b; scale(a)", errType, 17},
	} {
		holdFault(t, read(c.program), wz(), c.e, c.at)
	}
}

// TestNames: CH1, all names of both tables, rising, none twice; and no other one.
func TestNames(t *testing.T) {
	const want = "adaptive_grad_clip add_decayed_weights after apply_every apply_if_finite centralize chain clip clip_by_block_norm " +
		"clip_by_block_rms clip_by_global_norm constant cosine ema exponential hold identity inverse join keep_params_in_box " +
		"keep_params_nonnegative least linear masked most multi_steps normalize_by_update_norm partition piecewise plus polynomial " +
		"scale scale_by_adadelta scale_by_adam scale_by_adamax scale_by_amsgrad scale_by_belief scale_by_lion scale_by_novograd " +
		"scale_by_optimistic_gradient scale_by_param_block_norm scale_by_param_block_rms scale_by_rms scale_by_rss " +
		"scale_by_schedule scale_by_sign scale_by_stddev scale_by_trust_ratio scale_by_yogi set_to_zero skip_large " +
		"split_real_and_imaginary times trace until warmup zero_nans"
	if got := strings.Join(Names(), " "); got != want {
		t.Errorf("Names() = %s", got)
	}
	if len(Names()) != 57 || !slices.IsSorted(Names()) {
		t.Error(len(Names()), "names")
	}
	var all []string
	for _, s := range slices.Concat(theTransforms(), theSchedules()) {
		all = append(all, s.name)
	}
	slices.Sort(all)
	if !slices.Equal(slices.Compact(all), Names()) {
		t.Errorf("Names() = %q, the tables have %q", Names(), all)
	}
}
