package vector

import (
	"math"
	"slices"
	"testing"

	"lathe/api"
	"lathe/samples"
)

// TestLeast: V3.
func TestLeast(t *testing.T) {
	holdTold(t, "Least", Least, []told{
		{nil, plusInf},
		{[]api.F{}, plusInf},
		{[]api.F{plusInf}, plusInf},
		{[]api.F{0x40000000, 0x3f800000, 0x40400000}, 0x3f800000},
		{[]api.F{0xbf800000, 0xc0000000}, 0xc0000000},
		{[]api.F{0, minus}, minus},
		{[]api.F{minus, 0}, minus},
		{[]api.F{0, 0x00000001}, 0},
		{[]api.F{0x00000002, 0x00000001}, 0x00000001},
		{[]api.F{0x80000001, minus}, 0x80000001},
		{[]api.F{0xff7fffff, minusInf, 0}, minusInf},
		{[]api.F{0x7f7fffff, plusInf}, 0x7f7fffff},
		{[]api.F{0x3f800000, nan}, nan},
	})
	holdNaNs(t, "Least", Least)
}

// TestMost: V3.
func TestMost(t *testing.T) {
	holdTold(t, "Most", Most, []told{
		{nil, minusInf},
		{[]api.F{}, minusInf},
		{[]api.F{minusInf}, minusInf},
		{[]api.F{0x40000000, 0x40400000, 0x3f800000}, 0x40400000},
		{[]api.F{0xbf800000, 0xc0000000}, 0xbf800000},
		{[]api.F{0, minus}, 0},
		{[]api.F{minus, 0}, 0},
		{[]api.F{minus, minus}, minus},
		{[]api.F{0x80000001, minus}, minus},
		{[]api.F{0x7f7fffff, plusInf, 0}, plusInf},
		{[]api.F{0xff7fffff, minusInf}, 0xff7fffff},
		{[]api.F{0x3f800000, nan}, nan},
	})
	holdNaNs(t, "Most", Most)
}

// TestLeastMostAnyPlace: V3, wherever it stands.
func TestLeastMostAnyPlace(t *testing.T) {
	for n := 1; n <= 9; n++ {
		for place := range n {
			list := make([]api.F, n)
			list[place] = 0x80000001
			if got := Least(list); got != 0x80000001 {
				t.Errorf("Least(%08x) = %08x", list, got)
			}
			list[place] = 0x00000001
			if got := Most(list); got != 0x00000001 {
				t.Errorf("Most(%08x) = %08x", list, got)
			}
		}
	}
}

// TestFinite: V3, each pattern in each place.
func TestFinite(t *testing.T) {
	if !Finite(nil) || !Finite([]api.F{}) {
		t.Error("Finite of nothing")
	}
	for _, a := range append(samples.Edges(), samples.NaNs()...) {
		want := a&0x7fffffff < plusInf
		for n := 1; n <= 4; n++ {
			for place := range n {
				list := numbered(3, n)
				list[place] = a
				if got := Finite(list); got != want {
					t.Errorf("Finite(%08x) = %v", list, got)
				}
			}
		}
	}
}

// TestFiniteGreat: V3, elements that are finite, though their sum is not.
func TestFiniteGreat(t *testing.T) {
	if !Finite([]api.F{0x7f7fffff, 0x7f7fffff, 0xff7fffff}) {
		t.Error("the greatest numbers count as infinite")
	}
}

// TestCanon: V3.
func TestCanon(t *testing.T) {
	for _, empty := range [][]api.F{nil, {}} {
		if got := Canon(empty); len(got) != 0 {
			t.Errorf("Canon of nothing: %08x", got)
		}
	}
	got := Canon([]api.F{0x3f800000, 0x7f800001, minus, 0xffffffff, plusInf, 0x807fffff, nan})
	if want := []api.F{0x3f800000, nan, minus, nan, plusInf, 0x807fffff, nan}; !slices.Equal(got, want) {
		t.Errorf("Canon: %08x", got)
	}
	for _, n := range samples.NaNs() {
		if got := Canon([]api.F{n, 1, n}); !slices.Equal(got, []api.F{nan, 1, nan}) {
			t.Errorf("Canon with %08x: %08x", n, got)
		}
	}
	for _, a := range samples.Edges() {
		if got := Canon([]api.F{a}); len(got) != 1 || got[0] != a && (got[0] != nan || !samples.IsNaN(a)) {
			t.Errorf("Canon(%08x) = %08x", a, got)
		}
	}
}

// TestFill: V3.
func TestFill(t *testing.T) {
	for _, n := range []int{0, 1, 2, 3, api.MaxLen, 65535, 65536} {
		for _, a := range append(samples.Edges(), samples.NaNs()...) {
			want := a
			if samples.IsNaN(a) {
				want = nan
			}
			got, err := Fill(n, a)
			if err != api.OK || len(got) != n || slices.ContainsFunc(got, func(e api.F) bool { return e != want }) {
				t.Errorf("Fill(%d, %08x): %d elements, error %d", n, a, len(got), err)
			}
		}
	}
}

// TestFillRefused: V3.
func TestFillRefused(t *testing.T) {
	for _, n := range []int{-1, -2, -65536, math.MinInt, 65537, 65536 * 2, 1 << 32, math.MaxInt} {
		if got, err := Fill(n, 0x3f800000); err != api.ErrArg || got != nil {
			t.Errorf("Fill(%d, ..): %d elements, error %d", n, len(got), err)
		}
	}
}
