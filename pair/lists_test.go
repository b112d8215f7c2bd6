package pair

import (
	"slices"
	"testing"

	"lathe/api"
	"lathe/samples"
)

// TestPairs: PA4.
func TestPairs(t *testing.T) {
	for _, r := range []struct {
		list []api.F
		want []api.C
	}{
		{nil, nil},
		{[]api.F{}, nil},
		{[]api.F{0x3f800000, 0x40000000}, []api.C{whole(1, 2)}},
		{[]api.F{1, 2, 3, 4, 5, 6}, []api.C{c(1, 2), c(3, 4), c(5, 6)}},
		{[]api.F{minus, 0, 0, minus}, []api.C{c(minus, 0), c(0, minus)}},
	} {
		if got, err := Pairs(r.list); err != api.OK || !slices.Equal(got, r.want) {
			t.Errorf("Pairs(%08x) = %08x, %d", r.list, got, err)
		}
	}
}

// TestPairsOdd: PA4.
func TestPairsOdd(t *testing.T) {
	for _, n := range []int{1, 3, 5, 4095, 8191} {
		if got, err := Pairs(make([]api.F, n)); err != api.ErrShape || got != nil {
			t.Errorf("Pairs of %d numbers: %d and error %d", n, len(got), err)
		}
	}
}

// TestFlat: PA4.
func TestFlat(t *testing.T) {
	for _, r := range []struct {
		list []api.C
		want []api.F
	}{
		{nil, nil},
		{[]api.C{}, nil},
		{[]api.C{whole(1, 2)}, []api.F{0x3f800000, 0x40000000}},
		{[]api.C{c(1, 2), c(3, 4), c(5, 6)}, []api.F{1, 2, 3, 4, 5, 6}},
		{[]api.C{c(minus, 0), c(0, minus)}, []api.F{minus, 0, 0, minus}},
	} {
		if got := Flat(r.list); !slices.Equal(got, r.want) {
			t.Errorf("Flat(%08x) = %08x", r.list, got)
		}
	}
}

// TestListsKeepBits: PA4, NaNs of all patterns stay which they are, in either part.
func TestListsKeepBits(t *testing.T) {
	for _, a := range append(samples.Edges(), samples.NaNs()...) {
		pairs, err := Pairs([]api.F{a, 1, 2, a})
		if err != api.OK || !slices.Equal(pairs, []api.C{c(a, 1), c(2, a)}) {
			t.Errorf("Pairs with %08x: %08x, %d", a, pairs, err)
		}
		if flat := Flat([]api.C{c(a, 1), c(2, a)}); !slices.Equal(flat, []api.F{a, 1, 2, a}) {
			t.Errorf("Flat with %08x: %08x", a, flat)
		}
	}
}

// TestThereAndBack: PA6, at all even lengths up to some, and the greatest of a parameter.
func TestThereAndBack(t *testing.T) {
	numbers := samples.Source(13)
	lengths := []int{2 * api.MaxLen}
	for n := 0; n <= 64; n += 2 {
		lengths = append(lengths, n)
	}
	for _, n := range lengths {
		list := numbers.List(n)
		pairs, err := Pairs(list)
		if err != api.OK || len(pairs) != n/2 || !slices.Equal(Flat(pairs), list) {
			t.Errorf("Flat of Pairs of %08x: %08x, error %d", list, Flat(pairs), err)
		}
		if again, err := Pairs(Flat(pairs)); err != api.OK || !slices.Equal(again, pairs) {
			t.Errorf("Pairs of Flat of %08x: %08x, error %d", pairs, again, err)
		}
	}
}

// TestPairsAlone: rule 3, also the room behind the lengths.
func TestPairsAlone(t *testing.T) {
	list := []api.F{1, 2, 3, 4, 5, 6}
	handed := list[:4]
	first, _ := Pairs(handed)
	second, _ := Pairs(handed)
	if !slices.Equal(list, []api.F{1, 2, 3, 4, 5, 6}) {
		t.Errorf("the list became %08x", list)
	}
	list[0] = 9
	if first[0] != c(1, 2) {
		t.Errorf("the answer became %08x", first)
	}
	first[1] = c(8, 8)
	if second[1] != c(3, 4) || list[2] != 3 {
		t.Errorf("the other answer became %08x, the list %08x", second, list)
	}
	for i := range first[:cap(first)] {
		first[:cap(first)][i] = c(7, 7)
	}
	if !slices.Equal(list, []api.F{9, 2, 3, 4, 5, 6}) || second[0] != c(1, 2) {
		t.Errorf("the list became %08x, the other answer %08x", list, second)
	}
}

// TestFlatAlone: rule 3, also the room behind the lengths.
func TestFlatAlone(t *testing.T) {
	list := []api.C{c(1, 2), c(3, 4), c(5, 6)}
	handed := list[:2]
	first, second := Flat(handed), Flat(handed)
	if !slices.Equal(list, []api.C{c(1, 2), c(3, 4), c(5, 6)}) {
		t.Errorf("the list became %08x", list)
	}
	list[0] = c(9, 9)
	if first[0] != 1 || first[1] != 2 {
		t.Errorf("the answer became %08x", first)
	}
	for i := range first[:cap(first)] {
		first[:cap(first)][i] = 7
	}
	if !slices.Equal(list, []api.C{c(9, 9), c(3, 4), c(5, 6)}) || !slices.Equal(second, []api.F{1, 2, 3, 4}) {
		t.Errorf("the list became %08x, the other answer %08x", list, second)
	}
}
