package reuse

import (
	"slices"
	"testing"

	"lathe/alike"
	"lathe/api"
	"lathe/ir"
	"lathe/samples"
)

// The document's numbers once more, so that a change of package api is seen.
const (
	errCode api.Errno = 160

	maxRegs  = 1 << 14
	maxSlots = 1 << 12
	maxCode  = 1 << 15
	maxNest  = 64

	nan api.F = 0x7fc00000
)

func read(text string) []api.Inst { return samples.Read(text) }

// listed are instructions as a text.
func listed(list []api.Inst) string { return samples.Show(api.Code{List: list}) }

// apart is how far apart the registers of one type stand in wide code.
const apart = 18

// wide is the usual code with these instructions, and with more registers: 0 to 3 are numbers, 4 to 7 whole numbers, 8 to 11 vectors of
// w, 12 to 15 of z, 16 and 17 of u; and those from 18, 36, 54 .. on likewise. The slots 0 to 4 are kept, 5 to 9 are not: a number, a
// whole number, vectors of w, z, u.
func wide(text string) api.Code {
	c := samples.Usual(text)
	c.Regs = slices.Repeat(c.Regs, 6)
	return c
}

// reused is what Reuse answers of code that it must take.
func reused(t *testing.T, c api.Code) api.Code {
	t.Helper()
	d, e := Reuse(c)
	if e != api.OK {
		t.Fatalf("Reuse = %d: %s", e, samples.Show(c))
	}
	return d
}

// holdForm: RE1 to RE4 of code that Reuse must take, all but what the code means; what Reuse answers.
func holdForm(t *testing.T, c api.Code) api.Code {
	t.Helper()
	d := reused(t, c)
	if e, at := ir.Check(d); e != api.OK {
		t.Errorf("ir.Check = %d at %d", e, at)
	}
	if !slices.Equal(d.Sign, c.Sign) || !slices.Equal(d.Slots, c.Slots) {
		t.Errorf("another signature, or other slots")
	}
	before := samples.Counts(c)
	for op, count := range samples.Counts(d) {
		if count > before[op] {
			t.Errorf("%d instructions of Op %d, more than %d", count, op, before[op])
		}
	}
	if again := reused(t, c); !ir.Equal(again, d) {
		t.Errorf("another code when it is asked again: %s", samples.Show(again))
	}
	if samples.IsSingle(c) {
		holdSingle(t, d)
	}
	if t.Failed() {
		t.Fatalf("%s became %s", samples.Show(c), samples.Show(d))
	}
	return d
}

// holdSingle: RE3 and RE4 of what Reuse answers of single code.
func holdSingle(t *testing.T, d api.Code) {
	t.Helper()
	if !samples.IsSingle(d) {
		t.Errorf("it is not single")
	}
	if left := leftToReuse(d); left != "" {
		t.Errorf("left to reuse: %s", left)
	}
	if twice := reused(t, d); len(twice.List) != len(d.List) {
		t.Errorf("shorter when it is done again: %s", samples.Show(twice))
	}
}

// holdMeaning: RE2, two codes make the same updates, and leave the same in every slot, step after step; and in a step whatever the kept
// slots hold at its beginning.
func holdMeaning(t *testing.T, g *samples.Grower, c, d api.Code, steps int) {
	t.Helper()
	if unlike := alike.Throughout(g, c, d, steps, alike.Every(c)); unlike != "" {
		t.Fatal(unlike)
	}
}

// hold: RE1 to RE4 of code; what Reuse answers.
func hold(t *testing.T, g *samples.Grower, c api.Code) api.Code {
	t.Helper()
	d := holdForm(t, c)
	holdMeaning(t, g, c, d, 3)
	return d
}

// holdWide: RE1 to RE4 of wide code, whose blocks are done or left out by its kept whole number; what Reuse answers.
func holdWide(t *testing.T, c api.Code) api.Code {
	t.Helper()
	g := &samples.Grower{Source: 1}
	d := hold(t, g, c)
	a, b := samples.CloneCode(c), samples.CloneCode(d)
	a.Slots[1].Int, b.Slots[1].Int = 5, 5
	holdMeaning(t, g, a, b, 2)
	return d
}

// holdList: wide code with these instructions becomes the one with those; and RE1 to RE4.
func holdList(t *testing.T, text, want string) {
	t.Helper()
	if d := holdWide(t, wide(text)); !slices.Equal(d.List, read(want)) {
		t.Errorf("%s became %s, want %s", text, listed(d.List), want)
	}
}

// holdStays: wide code with these instructions stays as it is.
func holdStays(t *testing.T, text string) {
	t.Helper()
	holdList(t, text, text)
}

// TestExamples: RE1 to RE3, the chapter's examples.
func TestExamples(t *testing.T) {
	holdList(t, "Grad D8; Grad D9; Add D10 A8 B9; Copy D11 A10; Out A11", "Grad D8; Add D10 A8 B8; Out A10")
	v := api.Type{Kind: 3}
	c := api.Code{Sign: []api.Param{{Name: "w", Kind: 1, Len: 3}}, Regs: []api.Type{v, v, v, v, v, v}, Slots: []api.Slot{{Type: v, Keep: true}}}
	c.List = read("Grad D0; Grad D1; Add D2 A0 B1; Copy D3 A2; Out A3")
	if d := hold(t, &samples.Grower{Source: 2}, c); !slices.Equal(d.List, read("Grad D0; Add D2 A0 B0; Out A2")) {
		t.Errorf("%s", samples.Show(d))
	}
	c.List = read("Grad D0; Store A0 N0; Load D1 N0; Load D2 N0; Add D3 A1 B2; Out A3; Store A3")
	if d := hold(t, &samples.Grower{Source: 3}, c); !slices.Equal(d.List, c.List) {
		t.Errorf("%s", samples.Show(d))
	}
	holdStays(t, "Load D4 N1; When A4; Grad D8; Store A8 N2; End; Grad D9; Out A9")
}

// TestNothing: RE1, code without instructions, without registers, without parameters.
func TestNothing(t *testing.T) {
	hold(t, &samples.Grower{Source: 2}, api.Code{})
	hold(t, &samples.Grower{Source: 3}, api.Code{Sign: []api.Param{}, Regs: []api.Type{}, Slots: []api.Slot{}, List: []api.Inst{}})
	holdStays(t, "")
	bare := api.Code{Sign: []api.Param{{Name: "w", Kind: 1, Len: 1}}, List: read("Loop; Next; Loop; Next")} // it has no registers
	if d := hold(t, &samples.Grower{Source: 4}, bare); !ir.Equal(d, bare) {
		t.Errorf("%s", samples.Show(d))
	}
	holdStays(t, "Load D4 N1; When A4; End; When A4; Loop; Next; End") // blocks without anything are fold's
}
