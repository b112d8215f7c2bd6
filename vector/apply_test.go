package vector

import (
	"math"
	"slices"
	"testing"

	"lathe/api"
	"lathe/bits"
	"lathe/float"
	"lathe/samples"
)

const (
	plusInf  = api.F(0x7f800000)
	minusInf = api.F(0xff800000)
	nan      = api.F(0x7fc00000)
	minus    = api.F(0x80000000)
)

// row is an elementwise instruction as chapter 5 tells it: how many arguments it takes, and its answer of one element of each.
type row struct {
	op, takes int
	of        func(e []api.F) api.F
}

func rows() []row {
	one := func(f func(a api.F) api.F) func(e []api.F) api.F {
		return func(e []api.F) api.F { return f(e[0]) }
	}
	two := func(f func(a, b api.F) api.F) func(e []api.F) api.F {
		return func(e []api.F) api.F { return f(e[0], e[1]) }
	}
	return []row{
		{3, 1, one(bits.Canon)},
		{4, 2, two(float.Add)},
		{5, 2, two(float.Sub)},
		{6, 2, two(float.Mul)},
		{7, 2, two(float.Div)},
		{8, 2, two(float.Min)},
		{9, 2, two(float.Max)},
		{10, 2, two(func(a, b api.F) api.F {
			if float.Less(a, b) {
				return 0x3f800000
			}
			return 0
		})},
		{11, 1, one(float.Sqrt)},
		{12, 1, one(float.Neg)},
		{13, 1, one(float.Abs)},
		{14, 1, one(func(a api.F) api.F {
			if a&0x7fffffff < plusInf {
				return 0x3f800000
			}
			return 0
		})},
		{15, 3, func(e []api.F) api.F { return float.Select(e[0], e[1], e[2]) }},
	}
}

func holdApply(t *testing.T, op int, args [][]api.F, want []api.F) {
	t.Helper()
	if got, err := Apply(op, args...); err != api.OK || !slices.Equal(got, want) {
		t.Errorf("Apply(%d, %08x) = %08x, error %d, want %08x", op, args, got, err, want)
	}
}

func holdRefused(t *testing.T, op int, args [][]api.F, want api.Errno) {
	t.Helper()
	if got, err := Apply(op, args...); err != want || got != nil {
		t.Errorf("Apply(%d, %08x) = %08x, error %d, want error %d", op, args, got, err, want)
	}
}

// TestApply: V1, the chapter's examples and an ordinary vector for each instruction.
func TestApply(t *testing.T) {
	for _, r := range []struct {
		op   int
		args [][]api.F
		want []api.F
	}{
		{api.OpAdd, [][]api.F{{0x3f800000, 0x40000000}, {0x41200000}}, []api.F{0x41300000, 0x41400000}},
		{api.OpCopy, [][]api.F{{0x3f800000, 0x7f800001, minus}}, []api.F{0x3f800000, nan, minus}},
		{api.OpSqrt, [][]api.F{{0x40000000, minus, 0xbf800000}}, []api.F{0x3fb504f3, minus, nan}},
		{api.OpNeg, [][]api.F{{0x3f800000, 0, 0xffffffff}}, []api.F{0xbf800000, minus, nan}},
		{api.OpAbs, [][]api.F{{0xbf800000, minus, minusInf}}, []api.F{0x3f800000, 0, plusInf}},
		{api.OpFinite, [][]api.F{{0xff7fffff, minus, plusInf, minusInf, nan, 1}}, []api.F{0x3f800000, 0x3f800000, 0, 0, 0, 0x3f800000}},
		{api.OpAdd, [][]api.F{{0x3f800000, 0x3f800001}, {0x33800000, 0x33800000}}, []api.F{0x3f800000, 0x3f800002}},
		{api.OpSub, [][]api.F{{0x3f800000, 0x40400000}, {0x40400000, 0x3f800000}}, []api.F{0xc0000000, 0x40000000}},
		{api.OpMul, [][]api.F{{0x40000000, 0x00000003}, {0x40400000, 0x3f000000}}, []api.F{0x40c00000, 0x00000002}},
		{api.OpDiv, [][]api.F{{0x3f800000, 0x3f800000}, {0x40400000, minus}}, []api.F{0x3eaaaaab, minusInf}},
		{api.OpMin, [][]api.F{{0, 0x3f800000}, {minus, 0x40000000}}, []api.F{minus, 0x3f800000}},
		{api.OpMax, [][]api.F{{minus, 0x3f800000}, {0, 0x40000000}}, []api.F{0, 0x40000000}},
		{api.OpLess, [][]api.F{{0x3f800000, 0x40000000, minus, nan}, {0x40000000, 0x3f800000, 0, 0}}, []api.F{0x3f800000, 0, 0, 0}},
		{api.OpSelect, [][]api.F{{0x3f800000, minus, nan, minusInf}, {1, 2, 3, 4}, {5, 6, 7, 8}}, []api.F{1, 6, 7, 4}},
	} {
		holdApply(t, r.op, r.args, r.want)
	}
	holdRefused(t, api.OpAdd, [][]api.F{{1, 2}, {1, 2, 3}}, api.ErrShape)
	holdRefused(t, api.OpSum, [][]api.F{{1}}, api.ErrArg)
}

// places are so many lists in which all edges and NaNs stand beside each other.
func places(takes int) [][]api.F {
	all := append(samples.Edges(), samples.NaNs()...)
	lists := make([][]api.F, takes)
	total := 1
	for range takes {
		total *= len(all)
	}
	for n := range total {
		for i := range lists {
			lists[i] = append(lists[i], all[n%len(all)])
			n /= len(all)
		}
	}
	return lists
}

// TestApplyByFloat: V1, every instruction at all edges in each place; rule 5.
func TestApplyByFloat(t *testing.T) {
	for _, r := range rows() {
		args := places(r.takes)
		got, err := Apply(r.op, args...)
		if err != api.OK || len(got) != len(args[0]) {
			t.Fatalf("Apply(%d, ..): %d elements, error %d", r.op, len(got), err)
		}
		for place := range got {
			var at []api.F
			for _, a := range args {
				at = append(at, a[place])
			}
			if want := r.of(at); got[place] != want || !samples.IsTold(want) {
				t.Errorf("Apply(%d, ..) of %08x = %08x, want %08x", r.op, at, got[place], want)
			}
		}
	}
}

// alike is so many arguments, each of n elements.
func alike(count, n int) [][]api.F {
	args := make([][]api.F, count)
	for i := range args {
		args[i] = make([]api.F, n)
	}
	return args
}

// TestApplyOthers: V1, what is no elementwise instruction, however many arguments there are.
func TestApplyOthers(t *testing.T) {
	others := []int{0, 1, 2, -1, -3, -4, -15, math.MinInt, math.MaxInt, 3 + 1<<32, 256 + 4}
	for op := 16; op <= 300; op++ {
		others = append(others, op)
	}
	for _, op := range others {
		for count := range 5 {
			holdRefused(t, op, alike(count, 2), api.ErrArg)
			holdRefused(t, op, alike(count, 0), api.ErrArg)
		}
		holdRefused(t, op, [][]api.F{{1, 2}, {1, 2, 3}}, api.ErrArg)
	}
}

// TestApplyCounts: V1, too few and too many arguments, also such as do not go together.
func TestApplyCounts(t *testing.T) {
	for _, r := range rows() {
		for count := range 8 {
			if count == r.takes {
				continue
			}
			holdRefused(t, r.op, alike(count, 0), api.ErrArg)
			holdRefused(t, r.op, alike(count, 1), api.ErrArg)
			holdRefused(t, r.op, alike(count, 3), api.ErrArg)
			if count > 1 {
				holdRefused(t, r.op, append(alike(count-1, 2), make([]api.F, 3)), api.ErrArg)
			}
		}
		holdApply(t, r.op, alike(r.takes, 0), nil)
	}
}

// together is V1's words of lengths: the length of the answer, or -1.
func together(lengths []int) int {
	for _, a := range lengths {
		for _, b := range lengths {
			if a != b && a != 1 && b != 1 || a == 0 && b != 0 {
				return -1
			}
		}
	}
	return slices.Max(lengths)
}

// numbered is a vector of n elements that tell their place and their vector.
func numbered(vector, n int) []api.F {
	a := make([]api.F, n)
	for i := range a {
		a[i] = float.FromInt(100*vector + 7*i + 1)
	}
	return a
}

func holdShape(t *testing.T, r row, lengths []int) {
	t.Helper()
	args := make([][]api.F, len(lengths))
	for i, n := range lengths {
		args[i] = numbered(i+1, n)
	}
	n := together(lengths)
	if n < 0 {
		holdRefused(t, r.op, args, api.ErrShape)
		return
	}
	want := make([]api.F, n)
	for place := range want {
		var at []api.F
		for _, a := range args {
			at = append(at, a[place%len(a)])
		}
		want[place] = r.of(at)
	}
	holdApply(t, r.op, args, want)
}

// TestApplyShapes: V1, lengths that are alike, unlike, one beside greater ones in each place, empty ones beside each.
func TestApplyShapes(t *testing.T) {
	lengths := []int{0, 1, 2, 3, 4}
	for _, r := range rows() {
		for _, a := range lengths {
			if r.takes == 1 {
				holdShape(t, r, []int{a})
				continue
			}
			for _, b := range lengths {
				if r.takes == 2 {
					holdShape(t, r, []int{a, b})
					continue
				}
				for _, c := range lengths {
					holdShape(t, r, []int{a, b, c})
				}
			}
		}
	}
}

// TestApplySelectShapes: V1, which of the three counts for all, told without a second reckoning.
func TestApplySelectShapes(t *testing.T) {
	one := api.F(0x3f800000)
	holdApply(t, api.OpSelect, [][]api.F{{one, 0, one}, {5}, {6}}, []api.F{5, 6, 5})
	holdApply(t, api.OpSelect, [][]api.F{{one}, {5, 6}, {7}}, []api.F{5, 6})
	holdApply(t, api.OpSelect, [][]api.F{{0}, {5}, {7, 8, 9}}, []api.F{7, 8, 9})
	holdApply(t, api.OpSelect, [][]api.F{{0}, {5, 6}, {7, 8}}, []api.F{7, 8})
	holdApply(t, api.OpSelect, [][]api.F{{0, one}, {5}, {7, 8}}, []api.F{7, 5})
	holdApply(t, api.OpSelect, [][]api.F{{0, one}, {5, 6}, {7}}, []api.F{7, 6})
	holdApply(t, api.OpSelect, [][]api.F{{0}, {5}, {7}}, []api.F{7})
	holdRefused(t, api.OpSelect, [][]api.F{{one, one}, {5}, {7, 8, 9}}, api.ErrShape)
	holdRefused(t, api.OpSelect, [][]api.F{{one}, {5}, {}}, api.ErrShape)
	holdRefused(t, api.OpSelect, [][]api.F{{}, {5}, {}}, api.ErrShape)
	holdRefused(t, api.OpSelect, [][]api.F{nil, nil, {1}}, api.ErrShape)
	holdApply(t, api.OpSelect, [][]api.F{nil, {}, nil}, nil)
}

// TestApplyLong: V1, beyond the greatest vector that a signature has.
func TestApplyLong(t *testing.T) {
	for _, n := range []int{api.MaxLen, api.MaxTotal, 3*api.MaxTotal + 1} {
		for _, r := range rows() {
			switch r.takes {
			case 1:
				holdShape(t, r, []int{n})
			case 2:
				holdShape(t, r, []int{n, n})
				holdShape(t, r, []int{1, n})
				holdShape(t, r, []int{n, n - 1})
			case 3:
				holdShape(t, r, []int{n, n, n})
				holdShape(t, r, []int{n, 1, n})
			}
		}
	}
}
