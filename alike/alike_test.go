package alike

import (
	"strings"
	"testing"

	"lathe/api"
	"lathe/samples"
)

// TestDifference: what is unlike is told, in the updates, in kept slots and in others, if these are asked; and what is alike is.
func TestDifference(t *testing.T) {
	for _, c := range []struct{ a, b, every, kept string }{
		{"", "", "", ""},
		{"Grad D8; Out A8", "Loop; Grad D9; Out A9; Next", "", ""},
		{"Grad D8; Out A8", "Param D8; Out A8", "updates, step ", "updates, step "},
		{"Grad D12; Out A12", "Grad D12; Out A12 N1", "updates, step ", "updates, step "},
		{"Number D0; Store A0", "Number D0 =80000000; Store A0", "slot 0, step 1", "slot 0, step 1"},
		{"Load D4 N1; Inc D4 A4; Store A4 N1", "Whole D4 N1; Store A4 N1", "slot 1, step 2", "slot 1, step 2"},
		{"Grad D16; Store A16 N4", "Neg D16 A16; Store A16 N4", "interp.New = 160", "interp.New = 160"},
		{"Whole D4; Store A4 N6", "", "slot 6, step 1", ""},
		{"Grad D16; Store A16 N9", "Grad D16; Neg D16 A16; Store A16 N9", "slot 9, step ", ""},
	} {
		g := &samples.Grower{Source: 5}
		every := Difference(g, samples.Usual(c.a), samples.Usual(c.b), 8, Every)
		kept := Difference(g, samples.Usual(c.a), samples.Usual(c.b), 8, Kept)
		if !isOf(every, c.every) || !isOf(kept, c.kept) {
			t.Errorf("%s, %s: %q, %q", c.a, c.b, every, kept)
		}
	}
}

// isOf tells whether a text begins so; whether it is empty, if it should be.
func isOf(text, begin string) bool {
	return strings.HasPrefix(text, begin) && (begin == "") == (text == "")
}

// TestPrimed: each kept slot holds something else ahead of the code, the same for two codes, and no other does.
func TestPrimed(t *testing.T) {
	g := samples.Grower{Source: 7}
	c, d := samples.Usual("Load D4 N1; Inc D4 A4; Store A4 N1"), samples.Usual("")
	if unlike := Difference(&samples.Grower{Source: 8}, Primed(g, d), Primed(g, d), 3, Every); unlike != "" {
		t.Error(unlike)
	}
	if unlike := Difference(&samples.Grower{Source: 8}, Primed(g, c), Primed(g, d), 3, Every); !isOf(unlike, "slot 1, step 1") {
		t.Errorf("%q", unlike)
	}
	for n, s := range d.Slots {
		only := func(other api.Slot) bool { return other == s }
		if unlike := Difference(&samples.Grower{Source: 9}, Primed(g, d), d, 1, only); isOf(unlike, "") == s.Keep {
			t.Errorf("slot %d: %q", n, unlike)
		}
	}
}
