package measure

import (
	"testing"

	"lathe/api"
	"lathe/samples"
)

// hold: what is told of each part of code is what chapter 26 says.
func hold(t *testing.T, c api.Code) {
	t.Helper()
	for at := range c.List {
		if got, want := Cost(&c, &c.List[at]), samples.Cost(c, c.List[at]); got != want {
			t.Errorf("%s costs %d, want %d", samples.ShowInst(c.List[at]), got, want)
		}
	}
	for _, is := range c.Regs {
		holdWidth(t, c, is)
	}
	for _, s := range c.Slots {
		holdWidth(t, c, s.Type)
	}
}

func holdWidth(t *testing.T, c api.Code, is api.Type) {
	t.Helper()
	if got, want := Width(&c, is), samples.Width(is, c.Sign); got != want {
		t.Errorf("the width of %v is %d, want %d", is, got, want)
	}
}

// TestByHand: chapter 26's words, each Op, and each type over parameters real, complex and of length 1.
func TestByHand(t *testing.T) {
	c := samples.EveryOp()
	want := []int{1, 1, 1, 1, 1, 1, 1, 1, 1, 1, 1, 1, 1, 1, 1, 62, 1, 1, 3, 3, 3, 1, 1, 1, 1, 1, 1, 1, 1, 2, 2, 3, 3, 1, 1, 2, 2, 1, 1}
	if len(c.List) != len(want) {
		t.Fatalf("%d instructions", len(c.List))
	}
	for at, cost := range want {
		if got := Cost(&c, &c.List[at]); got != cost {
			t.Errorf("%s costs %d, want %d", samples.ShowInst(c.List[at]), got, cost)
		}
	}
	for is, width := range map[api.Type]int{{Kind: 1}: 1, {Kind: 2}: 1, {Kind: 3}: 3, {Kind: 3, Param: 1}: 2, {Kind: 3, Param: 2}: 1} {
		if got := Width(&c, is); got != width {
			t.Errorf("the width of %v is %d, want %d", is, got, width)
		}
	}
	hold(t, c)
}

// TestFromAllOver: codes from all over, with parameters of any length.
func TestFromAllOver(t *testing.T) {
	g := &samples.Grower{Source: 1}
	for range 2000 {
		c := g.Code(60)
		hold(t, c)
		for n := range c.Sign {
			c.Sign[n].Len = 1 + g.Below(4096)
		}
		hold(t, c)
	}
}
