package verify

import (
	"slices"
	"testing"

	"lathe/alike"
	"lathe/api"
	"lathe/float"
	"lathe/interp"
	"lathe/samples"
)

func begin(t *testing.T, c api.Code) *alike.Watch {
	t.Helper()
	w, wrong := alike.NewWatch(c)
	if wrong != "" {
		t.Fatal(wrong)
	}
	return w
}

// stepped is a step: what the instructions that it did cost by the chapter's table.
func stepped(t *testing.T, w *alike.Watch, grads, params [][]api.F) int {
	t.Helper()
	if _, e := w.Step(grads, params); e != api.OK {
		t.Fatalf("Step = %d", e)
	}
	return w.Spent()
}

// TestSteps: VE3, no step of the interpreter does more than Cost tells, whatever comes in and whichever blocks are done.
func TestSteps(t *testing.T) {
	g, all, less := &samples.Grower{Source: 21}, 0, 0
	for range 3000 {
		c := g.Code(50)
		cost := costOfCode(t, c)
		w := begin(t, c)
		for range 3 {
			switch done := stepped(t, w, g.Vectors(c.Sign), g.Vectors(c.Sign)); {
			case done > cost:
				t.Fatalf("a step does %d, Cost is %d: %s", done, cost, samples.Show(c))
			case done < cost:
				less++
			default:
				all++
			}
		}
	}
	if min(all, less) < 500 {
		t.Errorf("%d steps did all, %d less", all, less)
	}
}

// TestStepsByHand: VE3, just what a step does: where all is done, that is the cost.
func TestStepsByHand(t *testing.T) {
	grads := [][]api.F{{1, 2, 3}, {4, 5, 6, 7}, {8}}
	for text, done := range map[string]int{
		"": 0, "Grad D8; Sum D0 A8; Out A8": 9, "Grad D12 N1; Out A12 N1": 4,
		"Whole D4 N1; When A4; Number D0; Power D1 A0 B4; End":                          1 + 1 + 1 + 62 + 1,
		"Whole D4; When A4; Number D0; Power D1 A0 B4; End":                             1 + 1,
		"Whole D4 N7; Whole D5; When A4; When A5; Grad D8; End; Grad D12; End; Grad D9": 1 + 1 + 1 + 1 + 2 + 1 + 3,
		"Whole D5; When A5; Loop; Grad D8; Next; End; Loop N1; Grad D12; Next":          1 + 1 + 1 + 2 + 1,
		"Load D4 N6; When A4; Loop; Grad D8; Neg D9 A8; Out A9; Next; End; Not D4 A4":   1 + 1 + 1 + 9 + 1 + 1 + 1,
		"Load D4 N1; Inc D5 A4; Store A5 N1; When A4; Load D9 N2; Store A9 N7; End":     1 + 1 + 1 + 1, // the first step
	} {
		c := usual(text)
		if got := stepped(t, begin(t, c), grads, grads); got != done || got > costOfCode(t, c) {
			t.Errorf("a step does %d, want %d, Cost is %d: %s", got, done, costOfCode(t, c), samples.Show(c))
		}
	}
	c := usual("Load D4 N1; Inc D5 A4; Store A5 N1; When A4; Load D9 N2; Store A9 N7; End")
	w := begin(t, c)
	for n, done := range []int{4, 11, 11, 11} {
		if got := stepped(t, w, grads, grads); got != done || costOfCode(t, c) != 11 {
			t.Errorf("the step %d does %d, want %d", n, got, done)
		}
	}
}

// powered is a power by chapter 2's words, and how many products it takes.
func powered(x api.F, n int) (api.F, int) {
	if n < 1 {
		return api.One, 0
	}
	top := 0
	for n>>(top+1) > 0 {
		top++
	}
	r, products := x, 0
	for bit := top - 1; bit >= 0; bit-- {
		r = float.Mul(r, r)
		products++
		if n>>bit&1 == 1 {
			r = float.Mul(r, x)
			products++
		}
	}
	return r, products
}

// TestPowers: VE3, a power to whichever whole number takes no more products than an OpPower costs.
func TestPowers(t *testing.T) {
	g, most := &samples.Grower{Source: 22}, 0
	wholes := []int{0, 1, 2, 3, 4, 5, 7, 8, 31, 32, 62, 63, 1<<30 - 1, 1 << 30, maxCount - 1, maxCount}
	for range 300 {
		wholes = append(wholes, g.Whole())
	}
	for _, n := range wholes {
		x := g.Near(api.One, 1)
		c := usual("Number D0; Whole D4; Power D1 A0 B4; Store A1")
		c.List[0].Bits, c.List[1].N = x, n
		run, _ := interp.New(c)
		grads := g.Vectors(c.Sign)
		if _, e := run.Step(grads, grads); e != api.OK {
			t.Fatalf("Step = %d", e)
		}
		got, _, _ := run.Slot(0)
		want, products := powered(x, n)
		cost, _ := Weigh(c, 2)
		if !slices.Equal(got, []api.F{want}) || products > cost || cost != 62 {
			t.Errorf("%08x to the power of %d is %08x in %d products, of %d", x, n, got, products, cost)
		}
		most = max(most, products)
	}
	if most != 60 {
		t.Errorf("the most were %d", most)
	}
}
