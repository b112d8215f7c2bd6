package alloc

import (
	"slices"
	"testing"

	"lathe/alike"
	"lathe/api"
	"lathe/ir"
	"lathe/samples"
)

// The document's numbers once more, so that a change of package api is seen.
const (
	errCode  api.Errno = 160
	errSlots api.Errno = 180
	errSize  api.Errno = 181

	maxRegs  = 1 << 14
	maxSlots = 1 << 12
	maxCode  = 1 << 15
	maxNest  = 64

	keepVector = 8
)

func read(text string) []api.Inst { return samples.Read(text) }

// listed are instructions as a text.
func listed(list []api.Inst) string { return samples.Show(api.Code{List: list}) }

// usual is the usual code of the tests: its registers 0 to 3 are numbers, 4 to 7 whole numbers, 8 to 11 vectors of w, 12 to 15 of z, 16
// and 17 of u. The slots 0 to 4 are kept, 5 to 9 are not: a number, a whole number, vectors of w, z, u.
func usual(text string) api.Code { return samples.Usual(text) }

// pressureOf is what Pressure answers of code that is well formed, in one list.
func pressureOf(c api.Code) []int {
	n, w, v, e := Pressure(c)
	if e != api.OK {
		return nil
	}
	return append([]int{n, w}, v...)
}

// allocated is what Alloc answers of code that it must take.
func allocated(t *testing.T, c api.Code) api.Code {
	t.Helper()
	d, e := Alloc(c)
	if e != api.OK {
		t.Fatalf("Alloc = %d: %s", e, samples.Show(c))
	}
	return d
}

// holdForm: RA2 and RA3 of code that Alloc must take, all but what the code means; what Alloc answers.
func holdForm(t *testing.T, c api.Code) api.Code {
	t.Helper()
	d := allocated(t, c)
	if e, at := ir.Check(d); e != api.OK {
		t.Fatalf("ir.Check = %d at %d: %s became %s", e, at, samples.Show(c), samples.Show(d))
	}
	if !slices.Equal(d.Sign, c.Sign) {
		t.Errorf("another signature")
	}
	holdSlots(t, c, d)
	if !samples.IsFew(samples.Registers(d)) || !samples.IsFew(pressureOf(d)) {
		t.Errorf("%v registers, Pressure %v", samples.Registers(d), pressureOf(d))
	}
	if samples.IsSingle(c) && samples.IsFew(pressureOf(c)) && (len(d.Slots) > len(c.Slots) || len(d.List) > len(c.List)) {
		t.Errorf("%d slots became %d, %d instructions became %d", len(c.Slots), len(d.Slots), len(c.List), len(d.List))
	}
	if again := allocated(t, c); !ir.Equal(again, d) {
		t.Errorf("another code when it is asked again: %s", samples.Show(again))
	}
	if twice := allocated(t, d); len(twice.Slots) != len(d.Slots) || len(twice.List) != len(d.List) {
		t.Errorf("more or less when it is done again: %s", samples.Show(twice))
	}
	holdChoice(t, c, d)
	if t.Failed() {
		t.Fatalf("%s became %s", samples.Show(c), samples.Show(d))
	}
	return d
}

// holdSlots: RA2, the slots of a code stand first in what it became, in their order; behind them none has Keep.
func holdSlots(t *testing.T, c, d api.Code) {
	t.Helper()
	if len(d.Slots) < len(c.Slots) || !slices.Equal(d.Slots[:len(c.Slots)], c.Slots) {
		t.Fatalf("other slots: %s became %s", samples.Show(c), samples.Show(d))
	}
	for n, s := range d.Slots[len(c.Slots):] {
		if s.Keep {
			t.Errorf("slot %d has Keep", len(c.Slots)+n)
		}
	}
}

// holdChoice: what is the program's own choice: what is wanted of a sort that has few registers is nothing more than them; and single code
// has just as many as are alive at once, if these are few.
func holdChoice(t *testing.T, c, d api.Code) {
	t.Helper()
	if samples.IsFew(samples.Registers(c)) && (len(d.Slots) != len(c.Slots) || len(d.List) != len(c.List)) {
		t.Errorf("%d slots became %d, %d instructions became %d", len(c.Slots), len(d.Slots), len(c.List), len(d.List))
	}
	for sort, count := range samples.Registers(d) {
		if count > samples.Registers(c)[sort] {
			t.Errorf("%d registers became %d", samples.Registers(c)[sort], count)
		}
	}
	if samples.IsSingle(c) && samples.IsFew(pressureOf(c)) && !slices.Equal(samples.Registers(d), pressureOf(c)) {
		t.Errorf("%v registers, Pressure was %v", samples.Registers(d), pressureOf(c))
	}
}

// holdMeaning: RA2, two codes make the same updates, and leave the same in every slot of the first one, step after step; and in a step
// whatever the kept slots hold at its beginning.
func holdMeaning(t *testing.T, g *samples.Grower, c, d api.Code, steps int) {
	t.Helper()
	if unlike := alike.Throughout(g, c, d, steps, alike.Every(c)); unlike != "" {
		t.Fatal(unlike)
	}
}

// hold: RA2 and RA3 of code; what Alloc answers.
func hold(t *testing.T, g *samples.Grower, c api.Code) api.Code {
	t.Helper()
	d := holdForm(t, c)
	holdMeaning(t, g, c, d, 3)
	return d
}

// holdUsual: RA2 and RA3 of code with the usual slots, whose blocks are done or left out by its kept whole number; what Alloc answers.
func holdUsual(t *testing.T, c api.Code) api.Code {
	t.Helper()
	g := &samples.Grower{Source: 1}
	c = samples.CloneCode(c)
	c.Slots[1].Int = 5
	hold(t, g, c)
	c.Slots[1].Int = 0
	return hold(t, g, c)
}

// TestExample: RA1 to RA3, the chapter's example.
func TestExample(t *testing.T) {
	v := api.Type{Kind: 3}
	c := api.Code{Sign: []api.Param{{Name: "w", Kind: 1, Len: 3}}, Regs: []api.Type{v, v, v}, List: read("Grad D0; Neg D1 A0; Abs D2 A1; Out A2")}
	if n, w, v, e := Pressure(c); n != 0 || w != 0 || !slices.Equal(v, []int{1}) || e != api.OK {
		t.Errorf("Pressure = %d, %d, %v, %d", n, w, v, e)
	}
	d := hold(t, &samples.Grower{Source: 2}, c)
	if !slices.Equal(d.List, read("Grad; Neg; Abs; Out")) || len(d.Regs) != 1 || len(d.Slots) > 0 {
		t.Errorf("%s", samples.Show(d))
	}
}

// TestNothing: RA1 and RA2, code without instructions, without registers, without parameters.
func TestNothing(t *testing.T) {
	for _, c := range []api.Code{
		{}, {Sign: []api.Param{}, Regs: []api.Type{}, Slots: []api.Slot{}, List: []api.Inst{}}, usual(""),
		{Sign: []api.Param{{Name: "w", Kind: 1, Len: 1}}, List: read("Loop; Next; Loop; Next")},
		{Regs: []api.Type{{Kind: 2}}, List: read("Whole D0 N1; When A0; When A0; End; End")},
	} {
		if p := pressureOf(c); !slices.Equal(p, pressureByWords(c)) || len(p) != 2+len(c.Sign) || p[0] != 0 {
			t.Errorf("Pressure %v: %s", p, samples.Show(c))
		}
		if d := hold(t, &samples.Grower{Source: 3}, c); !slices.Equal(d.List, c.List) {
			t.Errorf("%s became %s", samples.Show(c), samples.Show(d))
		}
	}
	crowd := api.Code{Regs: slices.Repeat([]api.Type{{Kind: 1}}, maxRegs)} // none of them is mentioned
	if d := hold(t, &samples.Grower{Source: 4}, crowd); len(d.Regs) > 0 || pressureOf(crowd)[0] != 0 {
		t.Errorf("%s", samples.Show(d))
	}
}
