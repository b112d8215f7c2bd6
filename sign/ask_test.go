package sign

import (
	"slices"
	"strings"
	"testing"

	"lathe/api"
)

// unlikely are parameters that may not be, for each reason.
func unlikely() []api.Param {
	return []api.Param{
		{}, is("", kindReal, 4), is("a b", kindReal, 4), is("é", kindComplex, 4), is(strings.Repeat("n", maxName+1), kindReal, 4),
		is("x", 0, 4), is("x", 3, 4), is("x", -1, 4), is("x", kindReal, 0), is("x", kindComplex, 0), is("x", kindReal, -4),
		is("x", kindComplex, -4), is("x", kindReal, maxLen+1), is("x", kindComplex, maxLen+1), is("x", kindReal, maxInt),
		is("x", kindComplex, maxInt), is("x", kindReal, minInt), is("x", kindComplex, minInt),
	}
}

// TestNumbers: SG4, of a real parameter Len, of a complex one twice as many, of one that may not be none.
func TestNumbers(t *testing.T) {
	for _, n := range []int{1, 2, 3, 2048, 2049, maxLen - 1, maxLen} {
		if got := Numbers(is("w", kindReal, n)); got != n {
			t.Errorf("Numbers of %d real elements: %d", n, got)
		}
		if got := Numbers(is("w", kindComplex, n)); got != n+n {
			t.Errorf("Numbers of %d complex elements: %d", n, got)
		}
	}
	for _, p := range unlikely() {
		if n := Numbers(p); n != 0 {
			t.Errorf("Numbers of %s: %d", brief(dump(list(p))), n)
		}
	}
}

// TestTotal: SG4, the sum of Numbers, of lists that Check does not take too.
func TestTotal(t *testing.T) {
	for _, c := range []struct {
		list []api.Param
		want int
	}{
		{nil, 0},
		{[]api.Param{}, 0},
		{example(), 7},
		{example()[:1], 3},
		{example()[1:], 4},
		{unlikely(), 0},
		{slices.Concat(unlikely(), example(), unlikely()), 7},
		{slices.Concat(example(), example(), example()), 21},
		{several(maxParams, kindComplex, maxLen), 64 * 8192},
		{several(1000, kindReal, maxLen), 1000 * 4096},
	} {
		if n := Total(c.list); n != c.want {
			t.Errorf("Total of %s: %d, not %d", brief(dump(c.list)), n, c.want)
		}
	}
}

// TestFind: SG4, the first, the last and each other parameter; none; the first of those of one name.
func TestFind(t *testing.T) {
	all := several(maxParams, kindReal, 1)
	for i, p := range all {
		holdFind(t, all, p.Name, i, true)
		holdFind(t, all[:i], p.Name, 0, false)
		holdFind(t, all[i:], p.Name, 0, true)
		holdFind(t, slices.Concat(all, all), p.Name, i, true)
		holdFind(t, slices.Concat(several(3, kindComplex, 2), all[3:], all), p.Name, i, true)
	}
	for _, name := range []string{"", "p", "p64", "P0", "p0 ", " p0", "p00", "0", "real", "p0\x00"} {
		holdFind(t, all, name, 0, false)
		holdFind(t, nil, name, 0, false)
		holdFind(t, []api.Param{}, name, 0, false)
	}
	holdFind(t, list(is("a", kindReal, 1), is("w", kindReal, 1), is("b", kindReal, 1), is("w", kindComplex, 2), is("w", kindReal, 1)), "w", 1, true)
	holdFind(t, list(is("w", kindReal, 1), is("w", kindReal, 1)), "w", 0, true)
}

// TestFindWhatMayNotBe: SG4, a parameter is found by its name alone, whether it may be or not.
func TestFindWhatMayNotBe(t *testing.T) {
	all := list(is("a", 0, 1), is("b", kindReal, -1), is("", kindReal, 1), is("a b", kindReal, 1), is("", kindReal, 2), is("b", kindReal, 1))
	for i, name := range []string{"a", "b", "", "a b"} {
		holdFind(t, all, name, i, true)
	}
	holdFind(t, all, "c", 0, false)
	holdFind(t, example(), "", 0, false)
	many := several(3*maxParams, kindReal, 1)
	holdFind(t, many, many[len(many)-1].Name, len(many)-1, true)
}

// vectorsOf are those with as many patterns as their parameters have numbers.
func vectorsOf(list []api.Param) [][]api.F {
	var all [][]api.F
	for _, p := range list {
		all = append(all, make([]api.F, counted(p)))
	}
	return all
}

// holdFits: whether vectors fit.
func holdFits(t *testing.T, list []api.Param, vectors [][]api.F, want bool) {
	t.Helper()
	if Fits(list, vectors) != want {
		var lengths []int
		for _, v := range vectors {
			lengths = append(lengths, len(v))
		}
		t.Errorf("Fits of %s and vectors of %v: %t", brief(dump(list)), lengths, !want)
	}
}

// TestFits: SG4, a vector for each parameter, none too few and none too many, none a pattern too short or too long.
func TestFits(t *testing.T) {
	for _, all := range [][]api.Param{
		example(), several(1, kindReal, 1), several(1, kindComplex, 1), several(maxParams, kindReal, 3), several(maxParams, kindComplex, 3),
		list(is("a", kindReal, maxLen), is("b", kindComplex, maxLen), is("c", kindReal, 1), is("d", kindComplex, 1)),
	} {
		vectors := vectorsOf(all)
		holdFits(t, all, vectors, true)
		holdFits(t, all, nil, false)
		holdFits(t, all, vectors[1:], false)
		holdFits(t, all, vectors[:len(vectors)-1], false)
		for _, more := range [][]api.F{nil, {}, {1}, vectors[0]} {
			holdFits(t, all, append(slices.Clone(vectors), more), false)
			holdFits(t, all, append([][]api.F{more}, vectors...), false)
		}
		for i, p := range all {
			n := counted(p)
			for _, other := range []int{0, n - 1, n + 1, 2 * n, n / 2} {
				vectors[i] = make([]api.F, other, 3*n)
				holdFits(t, all, vectors, other == n)
			}
			vectors[i] = make([]api.F, n, 2*n)
			holdFits(t, all, vectors, true)
		}
	}
	holdFits(t, example(), [][]api.F{{1, 2, 3, 4}, {1, 2, 3}}, false)
	holdFits(t, example(), [][]api.F{{1, 2, 3}, {1, 2}}, false)
	holdFits(t, example(), [][]api.F{{1, 2, 3, 4, 5, 6}, {1, 2, 3, 4}}, false)
	holdFits(t, example(), [][]api.F{{0x7f800001, 0xffffffff, api.NaN}, {api.Inf, 0, api.Minus, 1}}, true)
}

// TestFitsWithoutParameters: SG4, no vectors fit no parameters.
func TestFitsWithoutParameters(t *testing.T) {
	holdFits(t, nil, nil, true)
	holdFits(t, nil, [][]api.F{}, true)
	holdFits(t, []api.Param{}, nil, true)
	holdFits(t, nil, [][]api.F{nil}, false)
	holdFits(t, nil, [][]api.F{{1}}, false)
}

// TestFitsWhatMayNotBe: SG4, a parameter that may not be has no numbers: a vector without patterns fits it, and no other.
func TestFitsWhatMayNotBe(t *testing.T) {
	for _, p := range unlikely() {
		holdFits(t, list(p), [][]api.F{nil}, true)
		holdFits(t, list(p), [][]api.F{{}}, true)
		holdFits(t, list(p), nil, false)
		for _, n := range []int{1, 4, 8, maxLen + 1, 2*maxLen + 2} {
			holdFits(t, list(p), [][]api.F{make([]api.F, n)}, false)
		}
		holdFits(t, append(example(), p), append(vectorsOf(example()), nil), true)
		holdFits(t, append(example(), p), vectorsOf(example()), false)
	}
	// A list that Check does not take for other reasons has its numbers all the same.
	for _, all := range [][]api.Param{several(maxParams+1, kindReal, 1), slices.Concat(example(), example()), several(17, kindReal, maxLen)} {
		holdFits(t, all, vectorsOf(all), true)
	}
}
