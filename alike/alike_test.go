package alike

import (
	"strings"
	"testing"

	"lathe/api"
	"lathe/samples"
)

// TestDifference: what is unlike is told, in the updates, in kept slots and in others, if these are asked; and what is alike is.
func TestDifference(t *testing.T) {
	for _, c := range []struct{ a, b, every, kept string }{
		{"", "", "", ""},
		{"Grad D8; Out A8", "Loop; Grad D9; Out A9; Next", "", ""},
		{"Grad D8; Out A8", "Param D8; Out A8", "updates, step ", "updates, step "},
		{"Grad D12; Out A12", "Grad D12; Out A12 N1", "updates, step ", "updates, step "},
		{"Number D0; Store A0", "Number D0 =80000000; Store A0", "slot 0, step 1", "slot 0, step 1"},
		{"Load D4 N1; Inc D4 A4; Store A4 N1", "Whole D4 N1; Store A4 N1", "slot 1, step 2", "slot 1, step 2"},
		{"Grad D16; Store A16 N4", "Neg D16 A16; Store A16 N4", "interp.New = 160", "interp.New = 160"},
		{"Whole D4; Store A4 N6", "", "slot 6, step 1", ""},
		{"Grad D16; Store A16 N9", "Grad D16; Neg D16 A16; Store A16 N9", "slot 9, step ", ""},
	} {
		g := &samples.Grower{Source: 5}
		a, b := samples.Usual(c.a), samples.Usual(c.b)
		every, kept := Difference(g, a, b, 8, Every(a)), Difference(g, a, b, 8, Kept(a))
		if !isOf(every, c.every) || !isOf(kept, c.kept) {
			t.Errorf("%s, %s: %q, %q", c.a, c.b, every, kept)
		}
	}
}

// isOf tells whether a text begins so; whether it is empty, if it should be.
func isOf(text, begin string) bool {
	return strings.HasPrefix(text, begin) && (begin == "") == (text == "")
}

// TestApart: slots of other numbers are held against each other, and no others.
func TestApart(t *testing.T) {
	c, d := samples.Usual("Grad D8; Store A8 N2; Store A8 N7"), samples.Usual("Grad D8; Store A8 N7")
	d.Slots[5] = api.Slot{Type: api.Type{Kind: 2}, Keep: true}
	for _, x := range []struct {
		asked []Both
		want  string
	}{
		{nil, ""}, {[]Both{{2, 7}, {1, 5}, {7, 7}}, ""}, {[]Both{{1, 1}, {2, 2}}, "slot 2, step 1"}, {[]Both{{0, 0}, {0, 5}}, "slot 0, step 1"}, {[]Both{{3, 10}}, "slot 3, step 1"},
	} {
		if unlike := Difference(&samples.Grower{Source: 6}, c, d, 1, x.asked); !isOf(unlike, x.want) {
			t.Errorf("%v: %q", x.asked, unlike)
		}
	}
}

// TestPrimed: each kept slot of the first code holds something else ahead of it, and no other does; those of the other code that go with
// them hold the same, and no others.
func TestPrimed(t *testing.T) {
	g := &samples.Grower{Source: 10}
	c, d := samples.Usual("Load D4 N1; Inc D4 A4; Store A4 N1"), samples.Usual("")
	a, b := Primed(g, d, d, Every(d))
	if unlike := Difference(&samples.Grower{Source: 8}, a, b, 3, Every(d)); unlike != "" {
		t.Error(unlike)
	}
	a, b = Primed(g, c, d, Every(d))
	if unlike := Difference(&samples.Grower{Source: 8}, a, b, 3, Every(d)); !isOf(unlike, "slot 1, step 1") {
		t.Errorf("%q", unlike)
	}
	for n, s := range d.Slots {
		only := []Both{{n, n}}
		if unlike := Difference(&samples.Grower{Source: 9}, a, d, 1, only); n != 1 && isOf(unlike, "") == s.Keep {
			t.Errorf("slot %d: %q", n, unlike)
		}
	}
	turned := []Both{{1, 6}, {2, 7}, {5, 0}, {9, 4}}
	a, b = Primed(g, d, d, turned)
	if unlike := Difference(&samples.Grower{Source: 9}, a, b, 2, turned[:2]); unlike != "" {
		t.Error(unlike)
	}
	if unlike := Difference(&samples.Grower{Source: 9}, d, b, 2, []Both{{0, 0}, {1, 1}, {2, 2}, {3, 3}, {4, 4}}); unlike != "" {
		t.Error(unlike)
	}
}

// TestThroughout: what is unlike only where a kept slot holds something else at the beginning is told, if there is room to make it so; and
// so is what is unlike without that.
func TestThroughout(t *testing.T) {
	loads, sets := "Load D0; Copy D8 A0; Out A8", "Number D0; Copy D8 A0; Out A8"
	long := strings.Repeat("Number D1;", api.MaxCode-len(samples.Read(loads))-10)
	for _, x := range []struct{ a, b, want string }{
		{loads, loads, ""}, {loads, sets, "updates, step 1"}, {sets, loads, "updates, step 1"}, {loads + ";" + long, sets + ";" + long, ""}, {loads, sets + ";" + long, ""}, {loads + ";" + long, sets, ""},
		{"Whole D4; Store A4 N6", "", "slot 6, step 1"}, {"Whole D4; Store A4 N6;" + long, long, "slot 6, step 1"},
	} {
		c, d := samples.Usual(x.a), samples.Usual(x.b)
		if unlike := Throughout(&samples.Grower{Source: 11}, c, d, 2, Every(c)); !isOf(unlike, x.want) {
			t.Errorf("%.60s, %.60s: %.100q", x.a, x.b, unlike)
		}
	}
	c := samples.Usual(loads)
	if unlike := Difference(&samples.Grower{Source: 11}, c, samples.Usual(sets), 2, Every(c)); unlike != "" {
		t.Error(unlike)
	}
}
