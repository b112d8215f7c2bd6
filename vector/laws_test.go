package vector

import (
	"slices"
	"testing"

	"lathe/api"
	"lathe/float"
	"lathe/samples"
)

// lists are of all lengths up to some: patterns from all over, and numbers that weigh in one sum.
func lists(seed samples.Source) [][]api.F {
	numbers := seed
	var all [][]api.F
	for n := range 24 {
		all = append(all, numbers.List(n))
		for _, size := range []api.F{0x3f800000, 0x1f800000, 0x5f000000, 0x7f000000} {
			list := make([]api.F, n)
			for i := range list {
				list[i] = numbers.Near(size, 4)
			}
			all = append(all, list)
		}
	}
	return all
}

// TestSumGoesOn: V4, a list that is cut anywhere.
func TestSumGoesOn(t *testing.T) {
	for _, list := range lists(21) {
		whole := Sum(list)
		for cut := range len(list) + 1 {
			sum := Sum(list[:cut])
			for _, b := range list[cut:] {
				sum = float.Add(sum, b)
			}
			if sum != whole || !samples.IsTold(whole) {
				t.Errorf("Sum(%08x) = %08x, gone on with behind %d: %08x", list, whole, cut, sum)
			}
		}
	}
}

// TestDotIsSquares: V4.
func TestDotIsSquares(t *testing.T) {
	for _, list := range append(lists(22), numbered(1, api.MaxTotal)) {
		dot, err := Dot(list, list)
		again, err2 := Dot(list, slices.Clone(list))
		if squares := Squares(list); dot != squares || again != squares || err != api.OK || err2 != api.OK {
			t.Errorf("Dot of %08x with itself: %08x, with a copy %08x, Squares %08x", list, dot, again, squares)
		}
	}
}

// cutAt is the arguments up to a place, and from it on: one of a single element stands in both.
func cutAt(args [][]api.F, place int) (ahead, behind [][]api.F) {
	for _, a := range args {
		if len(a) == 1 {
			ahead, behind = append(ahead, a), append(behind, a)
			continue
		}
		ahead, behind = append(ahead, a[:place]), append(behind, a[place:])
	}
	return ahead, behind
}

func holdCuts(t *testing.T, op int, args [][]api.F, from, to int) {
	t.Helper()
	whole, err := Apply(op, args...)
	if err != api.OK {
		t.Errorf("Apply(%d, %08x): error %d", op, args, err)
	}
	for place := from; place <= to; place++ {
		ahead, behind := cutAt(args, place)
		first, err := Apply(op, ahead...)
		second, err2 := Apply(op, behind...)
		if err != api.OK || err2 != api.OK || !slices.Equal(append(first, second...), whole) {
			t.Errorf("Apply(%d, %08x), cut at %d: %08x and %08x, errors %d and %d", op, args, place, first, second, err, err2)
		}
	}
}

// TestApplyCut: V4, every instruction, a list that is cut anywhere.
func TestApplyCut(t *testing.T) {
	numbers := samples.Source(23)
	for _, r := range rows() {
		for _, n := range []int{0, 1, 2, 3, 8, 17} {
			args := make([][]api.F, r.takes)
			for i := range args {
				args[i] = numbers.List(n)
			}
			if n != 1 {
				holdCuts(t, r.op, args, 0, n)
			}
			if n < 2 || r.takes < 2 {
				continue
			}
			for i := range args {
				mixed := slices.Clone(args)
				mixed[i] = numbers.List(1)
				holdCuts(t, r.op, mixed, 1, n-1)
			}
		}
	}
}

// TestTold: rule 5, whatever comes in.
func TestTold(t *testing.T) {
	for _, list := range lists(24) {
		dot, _ := Dot(list, list)
		answers := []api.F{Sum(list), Squares(list), Norm(list, list), dot, Mean(list), Least(list), Most(list)}
		for _, a := range append(answers, Canon(list)...) {
			if !samples.IsTold(a) {
				t.Errorf("%08x is told of %08x", a, list)
			}
		}
	}
}

// room is a list with room behind it, and all of its memory.
func room() (list, all []api.F) {
	all = []api.F{0x3f800000, 0x7f800001, 0x40000000, 11, 12, 13}
	return all[:3], all
}

func stamp(list []api.F) {
	list = list[:cap(list)]
	for i := range list {
		list[i] = 99
	}
}

// holdApart: rule 3, the answers of two calls with the list, also in the room behind their lengths.
func holdApart(t *testing.T, name string, call func(list []api.F) []api.F) {
	t.Helper()
	list, all := room()
	_, before := room()
	first, second := call(list), call(list)
	want := slices.Clone(second)
	if !slices.Equal(all, before) {
		t.Errorf("%s made %08x of the list's memory", name, all)
	}
	stamp(first)
	if !slices.Equal(all, before) || !slices.Equal(second, want) {
		t.Errorf("%s: a change of its answer is seen in %08x, %08x", name, all, second)
	}
	stamp(all)
	if !slices.Equal(second, want) {
		t.Errorf("%s: a change of its argument is seen in %08x", name, second)
	}
}

// TestApart: rule 3.
func TestApart(t *testing.T) {
	holdApart(t, "Canon", Canon)
	holdApart(t, "Fill", func(list []api.F) []api.F {
		got, _ := Fill(3, list[0])
		return got
	})
	for _, r := range rows() {
		for place := range r.takes {
			holdApart(t, "Apply", func(list []api.F) []api.F {
				args := alike(r.takes, 1)
				args[place] = list
				got, _ := Apply(r.op, args...)
				return got
			})
		}
		holdApart(t, "Apply", func(list []api.F) []api.F {
			args := [][]api.F{list, list, list}
			got, _ := Apply(r.op, args[:r.takes]...)
			return got
		})
	}
}

// TestOneElementApart: rule 3, where a list of one or none could be handed on as it is.
func TestOneElementApart(t *testing.T) {
	for n := range 2 {
		all := []api.F{0x3f800000, 5, 6}
		list := all[:n]
		stamp(Canon(list))
		copied, _ := Apply(api.OpCopy, list)
		stamp(copied)
		if !slices.Equal(all, []api.F{0x3f800000, 5, 6}) {
			t.Errorf("a change of an answer is seen in %08x", all)
		}
	}
}

// TestArgumentsStay: rule 3, the calls that answer no list, and the lists of lists.
func TestArgumentsStay(t *testing.T) {
	list, all := room()
	other, others := room()
	_, before := room()
	args := [][]api.F{list, other, {0x40400000}, nil}
	Norm(args...)
	Sum(list)
	Squares(list)
	Dot(list, other)
	Mean(list)
	Least(list)
	Most(list)
	Finite(list)
	Apply(api.OpSelect, args[:3]...)
	if !slices.Equal(all, before) || !slices.Equal(others, before) || !slices.Equal(args[2], []api.F{0x40400000}) {
		t.Errorf("the arguments became %08x, %08x, %08x", all, others, args[2])
	}
	if len(args) != 4 || len(args[0]) != 3 || len(args[1]) != 3 || len(args[2]) != 1 || args[3] != nil || &args[0][0] != &all[0] || &args[1][0] != &others[0] {
		t.Errorf("the list of arguments became %08x", args)
	}
}
