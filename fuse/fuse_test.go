package fuse

import (
	"maps"
	"slices"
	"testing"

	"lathe/alike"
	"lathe/api"
	"lathe/ir"
	"lathe/samples"
)

// The document's numbers once more, so that a change of package api is seen.
const (
	errCode api.Errno = 160

	maxRegs  = 1 << 14
	maxSlots = 1 << 12
	maxCode  = 1 << 15
	maxNest  = 64
)

func read(text string) []api.Inst { return samples.Read(text) }

// listed are instructions as a text.
func listed(list []api.Inst) string { return samples.Show(api.Code{List: list}) }

// usual is the usual code of the tests: its registers 0 to 3 are numbers, 4 to 7 whole numbers, 8 to 11 vectors of w, 12 to 15 of z, 16
// and 17 of u. The slots 0 to 4 are kept, 5 to 9 are not: a number, a whole number, vectors of w, z, u.
func usual(text string) api.Code { return samples.Usual(text) }

// fused is what Fuse answers of code that it must take.
func fused(t *testing.T, c api.Code) api.Code {
	t.Helper()
	d, e := Fuse(c)
	if e != api.OK {
		t.Fatalf("Fuse = %d: %s", e, samples.Show(c))
	}
	return d
}

// holdForm: FU1 to FU3 of code that Fuse must take, all but what the code means; what Fuse answers.
func holdForm(t *testing.T, c api.Code) api.Code {
	t.Helper()
	d := fused(t, c)
	if e, at := ir.Check(d); e != api.OK {
		t.Errorf("ir.Check = %d at %d", e, at)
	}
	if !slices.Equal(d.Sign, c.Sign) || !slices.Equal(d.Regs, c.Regs) || !slices.Equal(d.Slots, c.Slots) {
		t.Errorf("another signature, or other registers or slots")
	}
	if !maps.Equal(tally(samples.Bare(d)), tally(samples.Bare(c))) {
		t.Errorf("other instructions")
	}
	if samples.IsSingle(c) != samples.IsSingle(d) {
		t.Errorf("it is single: %t", samples.IsSingle(d))
	}
	if again := fused(t, c); !ir.Equal(again, d) {
		t.Errorf("another code when it is asked again: %s", samples.Show(again))
	}
	if isBounded(c) {
		holdBounded(t, c, d)
	}
	if t.Failed() {
		t.Fatalf("%s became %s", samples.Show(c), samples.Show(d))
	}
	return d
}

// holdBounded: FU3 of what code of which it speaks becomes. That there is nothing left to gather is the program's own choice.
func holdBounded(t *testing.T, c, d api.Code) {
	t.Helper()
	if at := samples.LooseAt(d); at >= 0 {
		t.Errorf("what stands at %d is loose", at)
	}
	if at := samples.NeighboursAt(d); at >= 0 {
		t.Errorf("two loops are neighbours at %d", at)
	}
	if loops, most := samples.Counts(d)[36], mayBeLooped(c); loops > most {
		t.Errorf("%d loops, more than %d instructions that may be looped", loops, most)
	}
	if twice := fused(t, d); !ir.Equal(twice, d) {
		t.Errorf("another code when it is done again: %s", samples.Show(twice))
	}
}

// holdMeaning: FU2, two codes make the same updates, and leave the same in every slot, step after step; and in a step whatever the kept
// slots hold at its beginning.
func holdMeaning(t *testing.T, g *samples.Grower, c, d api.Code, steps int) {
	t.Helper()
	if unlike := alike.Throughout(g, c, d, steps, alike.Every(c)); unlike != "" {
		t.Fatal(unlike)
	}
}

// hold: FU1 to FU3 of code; what Fuse answers.
func hold(t *testing.T, g *samples.Grower, c api.Code) api.Code {
	t.Helper()
	d := holdForm(t, c)
	holdMeaning(t, g, c, d, 3)
	return d
}

// holdUsual: FU1 to FU3 of code, whose blocks are done or left out by its kept whole number; what Fuse answers.
func holdUsual(t *testing.T, c api.Code) api.Code {
	t.Helper()
	g := &samples.Grower{Source: 1}
	c = samples.CloneCode(c)
	c.Slots[1].Int = 5
	hold(t, g, c)
	c.Slots[1].Int = 0
	return hold(t, g, c)
}

// holdList: the usual code with these instructions becomes the one with those; and FU1 to FU3.
func holdList(t *testing.T, text, want string) {
	t.Helper()
	if d := holdUsual(t, usual(text)); !slices.Equal(d.List, read(want)) {
		t.Errorf("%s became %s, want %s", text, listed(d.List), want)
	}
}

// holdStays: the usual code with these instructions stays as it is.
func holdStays(t *testing.T, text string) {
	t.Helper()
	holdList(t, text, text)
}

// TestExamples: FU1 to FU3, the chapter's examples.
func TestExamples(t *testing.T) {
	w, u, number := api.Type{Kind: 3}, api.Type{Kind: 3, Param: 1}, api.Type{Kind: 1}
	c := api.Code{Sign: []api.Param{{Name: "w", Kind: 1, Len: 3}, {Name: "u", Kind: 1, Len: 2}}, Regs: []api.Type{w, w, u, number}}
	for _, x := range [][2]string{
		{"Grad D0; Neg D1 A0; Out A1; Grad D2; Out A2", "Loop; Grad D0; Neg D1 A0; Out A1; Next; Loop N1; Grad D2; Out A2; Next"},
		{"Grad D0; Sum D3 A0; Mul D1 A0 B3; Out A1", "Loop; Grad D0; Next; Sum D3 A0; Loop; Mul D1 A0 B3; Out A1; Next"},
	} {
		c.List = read(x[0])
		if d := hold(t, &samples.Grower{Source: 2}, c); !slices.Equal(d.List, read(x[1])) {
			t.Errorf("%s became %s", x[0], listed(d.List))
		}
	}
}

// TestNothing: FU1, code without instructions, without registers, without parameters, and without anything that may be looped.
func TestNothing(t *testing.T) {
	hold(t, &samples.Grower{Source: 2}, api.Code{})
	hold(t, &samples.Grower{Source: 3}, api.Code{Sign: []api.Param{}, Regs: []api.Type{}, Slots: []api.Slot{}, List: []api.Inst{}})
	bare := api.Code{Sign: []api.Param{{Name: "w", Kind: 1, Len: 1}}, List: read("Loop; Next; Loop; Next")} // it has no registers
	if d := hold(t, &samples.Grower{Source: 4}, bare); len(d.List) > 0 {
		t.Errorf("%s", samples.Show(d))
	}
	holdStays(t, "")
	holdStays(t, "Number D0 =3f800000; Neg D1 A0; Store A1; Load D4 N1; Inc D4 A4; Store A4 N1")
	holdStays(t, "Load D4 N1; When A4; When A4; Number D0; Store A0; End; End; When A4; End")
}
