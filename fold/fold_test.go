package fold

import (
	"slices"
	"testing"

	"lathe/alike"
	"lathe/api"
	"lathe/interp"
	"lathe/ir"
	"lathe/samples"
)

// The document's numbers once more, so that a change of package api is seen.
const (
	errCode api.Errno = 160

	maxCount = 1<<31 - 1
	maxRegs  = 1 << 14
	maxSlots = 1 << 12
	maxCode  = 1 << 15
	maxNest  = 64

	one   api.F = 0x3f800000
	two   api.F = 0x40000000
	three api.F = 0x40400000
	inf   api.F = 0x7f800000
	nan   api.F = 0x7fc00000
	minus api.F = 0x80000000
)

func read(text string) []api.Inst { return samples.Read(text) }

// usual is the usual code with these instructions: registers 0 to 3 are numbers, 4 to 7 whole numbers, 8 to 11 vectors of w, 12 to 15 of z,
// 16 and 17 of u; the slots 0 to 4 are kept, 5 to 9 are not: a number, a whole number, vectors of w, z, u.
func usual(text string) api.Code { return samples.Usual(text) }

// listed are instructions as a text.
func listed(list []api.Inst) string { return samples.Show(api.Code{List: list}) }

// folded is what Fold answers of code that it must take.
func folded(t *testing.T, c api.Code) api.Code {
	t.Helper()
	d, e := Fold(c)
	if e != api.OK {
		t.Fatalf("Fold = %d: %s", e, samples.Show(c))
	}
	return d
}

// holdForm: FO1, FO3 and FO4 of code that Fold must take, all but what the code means; what Fold answers.
func holdForm(t *testing.T, c api.Code) api.Code {
	t.Helper()
	d := folded(t, c)
	if e, at := ir.Check(d); e != api.OK {
		t.Errorf("ir.Check = %d at %d", e, at)
	}
	if !slices.Equal(d.Sign, c.Sign) || !slices.Equal(d.Slots, c.Slots) {
		t.Errorf("another signature, or other slots")
	}
	if len(d.List) > len(c.List) {
		t.Errorf("%d instructions, more than %d", len(d.List), len(c.List))
	}
	if samples.IsSingle(c) && !samples.IsSingle(d) {
		t.Errorf("it is not single")
	}
	if left := leftToFold(d); left != "" {
		t.Errorf("left to fold: %s", left)
	}
	if leftToFold(c) == "" && !ir.Equal(c, d) {
		t.Errorf("there was nothing to fold")
	}
	if other := strange(c, d); other != "" {
		t.Errorf("something else is simplified: %s", other)
	}
	if again := folded(t, c); !ir.Equal(again, d) {
		t.Errorf("another code when it is asked again: %s", samples.Show(again))
	}
	if twice := folded(t, d); !ir.Equal(twice, d) {
		t.Errorf("another code when it is folded again: %s", samples.Show(twice))
	}
	if t.Failed() {
		t.Fatalf("%s became %s", samples.Show(c), samples.Show(d))
	}
	return d
}

// running is a run of code.
func running(t *testing.T, c api.Code) *interp.Run {
	t.Helper()
	r, e := interp.New(c)
	if e != api.OK {
		t.Fatalf("interp.New = %d: %s", e, samples.Show(c))
	}
	return r
}

// stepped is what a step answers that has to be done.
func stepped(t *testing.T, r *interp.Run, grads, params [][]api.F) [][]api.F {
	t.Helper()
	u, e := r.Step(grads, params)
	if e != api.OK {
		t.Fatalf("Step = %d", e)
	}
	return u
}

// holdMeaning: FO2, two codes make the same updates, and leave the same in the slots with Keep, step after step.
func holdMeaning(t *testing.T, g *samples.Grower, c, d api.Code, steps int) {
	t.Helper()
	if unlike := alike.Difference(g, c, d, steps, alike.Kept(c)); unlike != "" {
		t.Fatal(unlike)
	}
}

// hold: FO1 to FO4 of code; what Fold answers.
func hold(t *testing.T, g *samples.Grower, c api.Code) api.Code {
	t.Helper()
	d := holdForm(t, c)
	holdMeaning(t, g, c, d, 3)
	return d
}

// holdList: the usual code with these instructions becomes the one with those; and FO1 to FO4.
func holdList(t *testing.T, text, want string) {
	t.Helper()
	d := hold(t, &samples.Grower{Source: 1}, usual(text))
	if !slices.Equal(d.List, read(want)) {
		t.Errorf("%s became %s, want %s", text, listed(d.List), want)
	}
}

// holdStays: the usual code with these instructions stays as it is.
func holdStays(t *testing.T, text string) {
	t.Helper()
	holdList(t, text, text)
}

// TestExamples: FO1 to FO3, the chapter's examples.
func TestExamples(t *testing.T) {
	holdList(t, "Grad D8; Number D0 =40000000; Number D1 =40400000; Add D2 A0 B1; Mul D9 A8 B2; Out A9", "Grad D8; Number D0 =40000000; Number D1 =40400000; Number D2 =40a00000; Mul D9 A8 B2; Out A9")
	holdList(t, "Grad D8; Number D0 =3f800000; Mul D9 A8 B0; Out A9", "Grad D8; Number D0 =3f800000; Copy D9 A8; Out A9")
	holdList(t, "Whole D4; When A4; Grad D8; Out A8; End", "Whole D4")
}

// TestNothing: FO1, code without instructions, without registers, without parameters.
func TestNothing(t *testing.T) {
	hold(t, &samples.Grower{Source: 2}, api.Code{})
	hold(t, &samples.Grower{Source: 3}, api.Code{Sign: []api.Param{}, Regs: []api.Type{}, Slots: []api.Slot{}, List: []api.Inst{}})
	holdStays(t, "")
	bare := api.Code{Sign: []api.Param{{Name: "w", Kind: 1, Len: 1}}, List: read("Loop; Next; Loop; Next")} // it has no registers
	if d := hold(t, &samples.Grower{Source: 4}, bare); !ir.Equal(d, bare) {
		t.Errorf("%s", samples.Show(d))
	}
}
