package alike

import (
	"slices"
	"strings"
	"testing"

	"lathe/api"
	"lathe/samples"
)

// did are the places of the instructions that the last step did.
func did(w *Watch, count int) []int {
	list := []int{}
	for place := range count {
		if w.Did(place) {
			list = append(list, place)
		}
	}
	return list
}

// TestWatch: what a step did is told, and what that cost; blocks that were left out, and loops, as they stand.
func TestWatch(t *testing.T) {
	grads := [][]api.F{{1, 2, 3}, {4, 5, 6, 7}, {8}}
	for _, x := range []struct {
		text  string
		did   []int
		spent int
	}{
		{"", []int{}, 0},
		{"Grad D8; Sum D0 A8; Out A8", []int{0, 1, 2}, 9},
		{"Whole D4; When A4; Grad D8; Whole D5; When A5; End; End; Grad D12", []int{0, 1, 7}, 4},
		{"Whole D4 N1; When A4; Whole D5; When A5; Grad D8; End; Grad D8; End", []int{0, 1, 2, 3, 6, 7}, 8},
		{"Whole D4 N3; When A4; Loop; Grad D8; Neg D9 A8; Next; End", []int{0, 1, 2, 3, 4, 5, 6}, 11},
		{"Whole D4; When A4; Loop; Grad D8; Neg D9 A8; Next; End; Loop N2; Next", []int{0, 1, 7, 8}, 4},
		{"Number D0; Whole D4 N9; Power D1 A0 B4", []int{0, 1, 2}, 64},
	} {
		c := samples.Usual(x.text)
		w, wrong := NewWatch(c)
		if wrong != "" {
			t.Fatal(wrong)
		}
		other := w.Clone()
		for range 2 {
			if _, e := w.Step(grads, grads); e != api.OK || !slices.Equal(did(w, len(c.List)), x.did) || w.Spent() != x.spent {
				t.Errorf("%s: %d, %v, %d, want %v, %d", x.text, e, did(w, len(c.List)), w.Spent(), x.did, x.spent)
			}
		}
		if other.Spent() != 0 {
			t.Errorf("%s: the clone has spent %d", x.text, other.Spent())
		}
	}
	if _, wrong := NewWatch(samples.Usual("End")); !strings.HasPrefix(wrong, "interp.New = 160") {
		t.Errorf("%q", wrong)
	}
}

// TestWatchState: what the slots with Keep hold is told in order, and no more.
func TestWatchState(t *testing.T) {
	w, wrong := NewWatch(samples.Usual("Load D4 N1; Inc D4 A4; Store A4 N1; Store A4 N6; Grad D8; Store A8 N2; Grad D12 N1; Store A12 N3; Store A12 N8"))
	if wrong != "" {
		t.Fatal(wrong)
	}
	grads := [][]api.F{{1, 2, 3}, {4, 5, 6, 7}, {8}}
	for step, want := range [][]uint32{{0, 0, 0, 0, 0, 0, 0, 0}, {0, 1, 1, 2, 3, 5, 7, 0}, {0, 2, 1, 2, 3, 5, 7, 0}} {
		if !slices.Equal(w.State(), want) {
			t.Errorf("step %d: %v", step, w.State())
		}
		_, _ = w.Step(grads, grads)
	}
}
