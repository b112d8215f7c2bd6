package mask

import (
	"strconv"
	"strings"
	"testing"

	"lathe/api"
)

// TestGlobs: M2, a glob that means one name, several, all, none, and one that stands twice.
func TestGlobs(t *testing.T) {
	list := []api.Param{is("enc/w", kindReal), is("enc/b", kindReal), is("dec/w", kindComplex), is("dec/b", kindReal), is("enc/w", kindComplex)}
	holdSet(t, glob("dec/w"), list, 2)
	holdSet(t, glob("enc/*"), list, 0, 1, 4)
	holdSet(t, glob("*/w"), list, 0, 2, 4)
	holdSet(t, glob("enc/w"), list, 0, 4)
	holdSet(t, glob("???/b"), list, 1, 3)
	holdSet(t, glob("*"), list, 0, 1, 2, 3, 4)
	holdSet(t, glob("*c*"), list, 0, 1, 2, 3, 4)
	for _, none := range []string{"", "enc", "w", "enc/", "enc/w1", "Enc/w", "????/w", "x*", "real"} {
		holdFault(t, placed(3, glob(none)), list, 111, 3)
	}
}

// TestCalls: M2, each call by itself and with masks in it.
func TestCalls(t *testing.T) {
	list := []api.Param{is("a", kindReal), is("b", kindComplex), is("c", kindReal), is("d", kindComplex), is("ab", kindReal)}
	all, none := call("all"), call("none")
	holdSet(t, all, list, 0, 1, 2, 3, 4)
	holdSet(t, none, list)
	holdSet(t, call("real"), list, 0, 2, 4)
	holdSet(t, call("complex"), list, 1, 3)
	holdSet(t, call("not", all), list)
	holdSet(t, call("not", none), list, 0, 1, 2, 3, 4)
	holdSet(t, call("not", call("real")), list, 1, 3)
	holdSet(t, call("not", glob("a*")), list, 1, 2, 3)
	holdSet(t, call("and", glob("a*")), list, 0, 4)
	holdSet(t, call("or", glob("a*")), list, 0, 4)
	holdSet(t, call("and", glob("a*"), glob("*b")), list, 4)
	holdSet(t, call("or", glob("a*"), glob("*b")), list, 0, 1, 4)
	holdSet(t, call("and", glob("?"), call("complex"), call("not", glob("d"))), list, 1)
	holdSet(t, call("or", glob("d"), glob("c"), glob("a")), list, 0, 2, 3)
	holdSet(t, call("and", glob("a"), glob("b")), list)
	holdSet(t, call("and", all, none), list)
	holdSet(t, call("or", all, none), list, 0, 1, 2, 3, 4)
	holdSet(t, call("and", none, all), list)
	holdSet(t, call("or", none, all), list, 0, 1, 2, 3, 4)
	holdSet(t, call("and", call("or", glob("a"), glob("b")), call("or", glob("b"), glob("c"))), list, 1)
	holdSet(t, call("or", call("and", glob("a*"), call("real")), call("and", glob("?"), call("complex"))), list, 0, 1, 3, 4)
	holdSet(t, call("not", call("and", call("not", glob("a")), call("not", glob("d")))), list, 0, 3)
}

// TestManyArguments: M2, calls with many arguments, of which the first, one between and the last decide.
func TestManyArguments(t *testing.T) {
	list := reals("a", "b", "c")
	for _, count := range []int{1, 2, 3, 10, 1000, 10000} {
		for _, at := range []int{0, count / 2, count - 1} {
			args := many(count, call("none"))
			args[at] = glob("b")
			holdSet(t, call("or", args...), list, 1)
			args = many(count, call("all"))
			args[at] = call("not", glob("b"))
			holdSet(t, call("and", args...), list, 0, 2)
		}
		holdSet(t, call("or", many(count, glob("c"))...), list, 2)
		holdSet(t, call("and", many(count, glob("c"))...), list, 2)
	}
}

// TestNoParameters: M2, the empty signature: no glob means a name of it, and no call a parameter.
func TestNoParameters(t *testing.T) {
	for _, list := range [][]api.Param{nil, {}, reals("a", "b")[:0]} {
		for _, n := range []api.Node{call("all"), call("none"), call("real"), call("complex"), call("not", call("none")), call("and", call("all"), call("all")), call("or", call("all"))} {
			holdSet(t, n, list)
		}
		for _, text := range []string{"", "*", "?", "a"} {
			holdFault(t, placed(5, glob(text)), list, 111, 5)
			holdFault(t, call("not", placed(5, glob(text))), list, 111, 5)
		}
		holdFault(t, placed(5, call("not")), list, 110, 5)
		holdFault(t, placed(6, nest(maxDepth, call("all"))), list, 81, 6)
	}
}

// TestManyParameters: M2, more parameters than a signature may have.
func TestManyParameters(t *testing.T) {
	var list []api.Param
	var odd, even, every []int
	for i := range 1000 {
		name := strconv.Itoa(i)
		if i%2 == 0 {
			list, even = append(list, is("e"+name, kindReal)), append(even, i)
		} else {
			list, odd = append(list, is("o"+name, kindComplex)), append(odd, i)
		}
		every = append(every, i)
	}
	holdSet(t, glob("o*"), list, odd...)
	holdSet(t, call("complex"), list, odd...)
	holdSet(t, call("not", glob("o*")), list, even...)
	holdSet(t, call("real"), list, even...)
	holdSet(t, call("or", glob("o*"), glob("e*")), list, every...)
	holdSet(t, call("and", glob("o*"), glob("e*")), list)
	holdSet(t, glob("?999"), list, 999)
	holdSet(t, glob("?0"), list, 0)
}

// TestUnlikelySignatures: M2, a signature that sign.Check refuses is taken as it is.
func TestUnlikelySignatures(t *testing.T) {
	list := []api.Param{{Name: "a", Kind: kindReal, Len: -1}, {Name: "a", Kind: kindComplex}, {}, {Name: "", Kind: kindReal, Len: 1 << 40}, {Name: "*", Kind: 3, Len: 1},
		{Name: "\xff\x00\n", Kind: -1, Len: minInt}, {Name: strings.Repeat("n", 10000), Kind: maxInt}, {Name: "a b\"", Kind: minInt, Len: maxInt}, {Name: "a", Kind: kindReal + 1<<32}}
	holdSet(t, call("all"), list, 0, 1, 2, 3, 4, 5, 6, 7, 8)
	holdSet(t, call("real"), list, 0, 3)
	holdSet(t, call("complex"), list, 1)
	holdSet(t, call("not", call("or", call("real"), call("complex"))), list, 2, 4, 5, 6, 7, 8)
	holdSet(t, glob("a"), list, 0, 1, 8)
	holdSet(t, glob("a*"), list, 0, 1, 7, 8)
	holdSet(t, glob(""), list, 2, 3)
	holdSet(t, call("not", glob("")), list, 0, 1, 4, 5, 6, 7, 8)
	holdSet(t, glob("?"), list, 0, 1, 4, 8)
	holdSet(t, glob("*"), list, 0, 1, 2, 3, 4, 5, 6, 7, 8)
	holdSet(t, glob("???"), list, 5)
	holdSet(t, glob("\xff?\n"), list, 5)
	holdSet(t, glob("n*"), list, 6)
	holdSet(t, glob(strings.Repeat("n", 10000)), list, 6)
	holdSet(t, glob("a b\""), list, 7)
	holdFault(t, placed(2, glob("b")), list, 111, 2)
}

// TestRestOfText: M2, what else a text has is not looked at, but for its Key, if it is an argument.
func TestRestOfText(t *testing.T) {
	for _, n := range []api.Node{
		{Kind: nodeText, Name: "b", Num: 0x3f800000},
		{Kind: nodeText, Name: "b", Num: 0x7f800001},
		{Kind: nodeText, Name: "b", Int: -7},
		{Kind: nodeText, Name: "b", At: minInt},
		{Kind: nodeText, Name: "b", Args: []api.Node{{}}},
		{Kind: nodeText, Name: "b", Args: []api.Node{}},
		{Kind: nodeText, Name: "b", Args: []api.Node{glob("x"), call("not"), keyed("k", call("all")), {Kind: nodeLet}}},
		{Kind: nodeText, Name: "b", Num: 1, Int: 1, Args: many(3, call("foo", call("bar"))), At: 9},
	} {
		holdSet(t, n, example(), 1)
		holdSet(t, keyed("k", n), example(), 1)
		holdSet(t, call("not", n), example(), 0, 2)
		holdSet(t, call("or", n, glob("z")), example(), 1, 2)
		holdFault(t, call("not", placed(4, keyed("k", n))), example(), 110, 4)
	}
}

// TestRestOfCall: M2, a call's Num and Int say nothing, nor does the Key of the mask itself.
func TestRestOfCall(t *testing.T) {
	for _, c := range []struct {
		n    api.Node
		want []int
	}{
		{call("all"), []int{0, 1, 2}},
		{call("none"), nil},
		{call("real"), []int{0, 1}},
		{call("complex"), []int{2}},
		{call("not", glob("b")), []int{0, 2}},
		{call("and", glob("b"), call("all")), []int{1}},
		{call("or", glob("b"), call("none")), []int{1}},
	} {
		n := c.n
		n.Num, n.Int, n.At = 0xffffffff, maxInt, -3
		holdSet(t, n, example(), c.want...)
		holdSet(t, call("and", n), example(), c.want...)
		holdSet(t, call("not", call("not", n)), example(), c.want...)
		for _, key := range []string{"k", " ", "\x00", "mask", strings.Repeat("k", 1000)} {
			holdSet(t, keyed(key, n), example(), c.want...)
			holdSet(t, keyed(key, call("or", n)), example(), c.want...)
		}
	}
}
