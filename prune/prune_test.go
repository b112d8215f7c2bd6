package prune

import (
	"slices"
	"testing"

	"lathe/alike"
	"lathe/api"
	"lathe/ir"
	"lathe/samples"
)

// The document's numbers once more, so that a change of package api is seen.
const (
	errCode api.Errno = 160

	maxRegs  = 1 << 14
	maxSlots = 1 << 12
	maxCode  = 1 << 15
	maxNest  = 64
)

func read(text string) []api.Inst { return samples.Read(text) }

// usual is the usual code of the tests: its registers 0 to 3 are numbers, 4 to 7 whole numbers, 8 to 11 vectors of w, 12 to 15 of z, 16
// and 17 of u. The slots 0 to 4 are kept, 5 to 9 are not: a number, a whole number, vectors of w, z, u.
func usual(text string) api.Code { return samples.Usual(text) }

// pruned is what Prune answers of code that it must take.
func pruned(t *testing.T, c api.Code) api.Code {
	t.Helper()
	d, e := Prune(c)
	if e != api.OK {
		t.Fatalf("Prune = %d: %s", e, samples.Show(c))
	}
	return d
}

// holdForm: PN1 and PN2 of code that Prune must take, all but which instructions are left and what the code means; what Prune answers.
func holdForm(t *testing.T, c api.Code) api.Code {
	t.Helper()
	d := pruned(t, c)
	if e, at := ir.Check(d); e != api.OK {
		t.Errorf("ir.Check = %d at %d", e, at)
	}
	if !slices.Equal(d.Sign, c.Sign) {
		t.Errorf("another signature")
	}
	slots, numbers := ir.Kept(c)
	if s, n := ir.Kept(d); s > slots || n > numbers {
		t.Errorf("%d slots are kept, of %d numbers; there were %d, of %d", s, n, slots, numbers)
	}
	if n := keptUnloaded(d); n >= 0 {
		t.Errorf("the slot %d is kept, and not loaded", n)
	}
	if samples.IsSingle(c) && !samples.IsSingle(d) {
		t.Errorf("it is not single")
	}
	if twice := pruned(t, d); !ir.Equal(twice, d) {
		t.Errorf("another code when it is done again: %s", samples.Show(twice))
	}
	if again := pruned(t, c); !ir.Equal(again, d) {
		t.Errorf("another code when it is asked again: %s", samples.Show(again))
	}
	if t.Failed() {
		t.Fatalf("%s became %s", samples.Show(c), samples.Show(d))
	}
	return d
}

// keptUnloaded is the first slot with Keep that no instruction loads; -1, if there is none.
func keptUnloaded(c api.Code) int {
	isLoaded := make([]bool, len(c.Slots))
	for _, i := range c.List {
		if i.Op == 32 {
			isLoaded[i.N] = true
		}
	}
	for n, s := range c.Slots {
		if s.Keep && !isLoaded[n] {
			return n
		}
	}
	return -1
}

// holdMeaning: PN2, two codes make the same updates, and leave the same in those slots, step after step; and in a step whatever the kept
// slots hold at its beginning.
func holdMeaning(t *testing.T, g *samples.Grower, c, d api.Code, slots []alike.Both, steps int) {
	t.Helper()
	if unlike := alike.Throughout(g, c, d, steps, slots); unlike != "" {
		t.Fatal(unlike)
	}
}

// hold: PN1 and PN2 of code; what Prune answers.
func hold(t *testing.T, g *samples.Grower, c api.Code) api.Code {
	t.Helper()
	d := holdForm(t, c)
	list := neededByWords(c)
	if want := numberedByWords(c, list); !ir.Equal(d, want) {
		t.Fatalf("%s became %s, want %s", samples.Show(c), samples.Show(d), samples.Show(want))
	}
	holdMeaning(t, g, c, d, leftSlots(c, list), 3)
	return d
}

// leftSlots are the slots that instructions work on, by their old and their new numbers.
func leftSlots(c api.Code, list []api.Inst) []alike.Both {
	var slots []alike.Both
	for n := range c.Slots {
		if worksOnSlot(list, n) {
			slots = append(slots, alike.Both{First: n, Other: len(slots)})
		}
	}
	return slots
}

// markedSlots are the same, as Prune itself tells them of the code with another Bits or Int in each slot: that is quick.
func markedSlots(t *testing.T, c api.Code) []alike.Both {
	t.Helper()
	c = samples.CloneCode(c)
	for n, s := range c.Slots {
		if s.Type.Kind == 2 {
			c.Slots[n].Int = n
		} else {
			c.Slots[n].Bits = api.F(n)
		}
	}
	var slots []alike.Both
	for n, s := range pruned(t, c).Slots {
		slots = append(slots, alike.Both{First: s.Int + int(s.Bits), Other: n})
	}
	return slots
}

// holdLeft: of the usual code with these instructions those are left; and PN1 and PN2. Its blocks are done or left out by its kept whole
// number.
func holdLeft(t *testing.T, text, left string) {
	t.Helper()
	g := &samples.Grower{Source: 1}
	c := usual(text)
	for _, whole := range []int{0, 5} {
		c.Slots[1].Int = whole
		d := hold(t, g, c)
		if want := numberedByWords(c, read(left)); !ir.Equal(d, want) {
			t.Errorf("%s became %s, want %s, which is %s", text, samples.Show(d), left, samples.Show(want))
		}
	}
}

// holdStays: all instructions of the usual code with these are left.
func holdStays(t *testing.T, text string) {
	t.Helper()
	holdLeft(t, text, text)
}

// holdNothing: of the usual code with these instructions nothing is left.
func holdNothing(t *testing.T, text string) {
	t.Helper()
	holdLeft(t, text, "")
	if d := pruned(t, usual(text)); len(d.List)+len(d.Regs)+len(d.Slots) > 0 || len(d.Sign) != 3 {
		t.Errorf("%s became %s", text, samples.Show(d))
	}
}

// TestExamples: PN1, the chapter's examples.
func TestExamples(t *testing.T) {
	v := api.Type{Kind: 3}
	c := api.Code{Sign: []api.Param{{Name: "w", Kind: 1, Len: 3}}, Regs: []api.Type{v, v, v}, Slots: []api.Slot{{Type: v, Keep: true}}}
	c.List = read("Grad D0; Load D1 N0; Add D2 A0 B1; Store A2 N0; Out A0")
	want := api.Code{Sign: c.Sign, Regs: []api.Type{v}, List: read("Grad D0; Out A0")}
	if d := hold(t, &samples.Grower{Source: 2}, c); !ir.Equal(d, want) {
		t.Errorf("%s", samples.Show(d))
	}
	c.List[4].A = 2
	if d := hold(t, &samples.Grower{Source: 3}, c); !ir.Equal(d, c) {
		t.Errorf("%s", samples.Show(d))
	}
}

// TestNothing: PN1, code without instructions, without registers, without parameters, and code of which nothing is needed.
func TestNothing(t *testing.T) {
	hold(t, &samples.Grower{Source: 2}, api.Code{})
	hold(t, &samples.Grower{Source: 3}, api.Code{Sign: []api.Param{}, Regs: []api.Type{}, Slots: []api.Slot{}, List: []api.Inst{}})
	bare := api.Code{Sign: []api.Param{{Name: "w", Kind: 1, Len: 1}}, List: read("Loop; Next; Loop; Next")} // it has no registers
	if d := hold(t, &samples.Grower{Source: 4}, bare); len(d.List) > 0 || !slices.Equal(d.Sign, bare.Sign) {
		t.Errorf("%s", samples.Show(d))
	}
	holdNothing(t, "")
	holdNothing(t, "Grad D8")
	holdNothing(t, "Number D0; Whole D4; Copy D1 A0; Inc D4 A4; Grad D8; Param D12 N1; Add D8 A8 B0")
	holdNothing(t, "Load D4 N1; Inc D4 A4; Store A4 N1")
	holdNothing(t, "Load D4 N1; When A4; Grad D8; Store A8 N2; End; Loop N2; Load D16 N9; Store A16 N4; Next")
	holdNothing(t, "Load D4 N1; When A4; When A4; Loop; Next; End; End; When A4; End")
}

// TestAll: PN1, code of which all is needed.
func TestAll(t *testing.T) {
	holdStays(t, "Grad D8; Out A8")
	holdStays(t, "Grad D12; Out A12; Grad D13 N1; Out A13 N1; Loop N2; Param D16; Out A16; Next; Grad D16; Out A16")
	holdStays(t, "Load D4 N1; Inc D5 A4; Store A5 N1; Load D0; Power D1 A0 B5; Store A1; Whole D6 N3; Less2 D6 A5 B6; When A6; Grad D8; Mul D9 A8 B1; Out A9; End")
	all := usual("") // each register and each slot has something to do
	for register, is := range all.Regs {
		slot := 5*(register%2) + is.Kind - 1 + is.Param
		all.List = append(all.List, api.Inst{Op: api.OpLoad, D: register, N: slot}, api.Inst{Op: api.OpStore, A: register, N: slot})
	}
	all.List = append(all.List, read("From D1 A5; From D0 A4; Copy D3 A1; Copy D2 A0; From D2 A6; From D3 A7; Copy D8 A0; Copy D9 A1; Copy D10 A2; Copy D11 A3")...)
	all.List = append(all.List, read("Out A8; Out A9; Out A10; Out A11; Out A12; Out A13; Out A14; Out A15 N1; Out A16; Out A17")...)
	if d := hold(t, &samples.Grower{Source: 5}, all); !ir.Equal(d, all) {
		t.Errorf("%s", samples.Show(d))
	}
}
