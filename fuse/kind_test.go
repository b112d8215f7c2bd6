package fuse

import (
	"slices"
	"strings"
	"testing"

	"lathe/api"
	"lathe/ir"
	"lathe/samples"
)

// sources set the numbers 0 and 1, the whole numbers 4 and 5, and two vectors of each parameter.
const sources = "Load D0; Number D1 =3f000000; Load D4 N1; Load D5 N6; Load D8 N2; Grad D9; Param D12; Load D13 N3; Grad D16; Param D17;"

// wanted want all these vectors whole, so that no loop holds both a source and something behind.
const wanted = "Sum D2 A8; Sum D2 A9; Sum D2 A12; Sum D2 A13; Sum D2 A16; Sum D2 A17;"

// settled is what sources and wanted become.
const settled = "Load D0; Number D1 =3f000000; Load D4 N1; Load D5 N6; Loop; Load D8 N2; Grad D9; Next; Sum D2 A8; Sum D2 A9; Loop N1; Param D12; Load D13 N3; Next; Sum D2 A12; Sum D2 A13;" +
	"Loop N2; Grad D16; Param D17; Next; Sum D2 A16; Sum D2 A17;"

// loopable are instructions behind the sources that may be looped, of each parameter: each Op in all its ways.
func loopable() []string {
	var list []string
	for _, v := range [][2]string{{"8", "9"}, {"12", "13"}, {"16", "17"}} {
		put := func(names string, ways ...string) {
			for _, name := range strings.Fields(names) {
				for _, way := range ways {
					list = append(list, name+" "+strings.NewReplacer("v", v[0], "x", v[1]).Replace(way))
				}
			}
		}
		put("Copy Sqrt Neg Abs Finite", "Dx Av", "Dv Av", "Dx A0")
		put("Add Sub Mul Div Min Max Less", "Dx Av Bx", "Dv Av Bv", "Dx A0 Bv", "Dx Av B1", "Dx A0 B1")
		put("Select", "Dx Av Bx Cv", "Dx A0 Bv Cx", "Dx Av B0 Cx", "Dv Av Bx C1", "Dx A0 B1 C0")
		put("Grad Param Out", map[string][]string{"8": {"Dx"}, "12": {"Dx", "Dx N1"}, "16": {"Dx"}}[v[0]]...)
	}
	for at, text := range list {
		if strings.HasPrefix(text, "Out") {
			list[at] = strings.Replace(text, "D", "A", 1)
		}
	}
	return append(list, "Load D8 N2", "Load D9 N7", "Load D12 N3", "Load D13 N8", "Load D16 N4", "Load D17 N9", "Store A8 N2", "Store A9 N7", "Store A12 N3", "Store A13 N8", "Store A16 N4", "Store A17 N9")
}

// plain are instructions behind the sources that may not be looped, each Op that is no mark in all its ways.
func plain() []string {
	list := strings.Split("Number D2 =40000000; Whole D6 N3; Power D2 A0 B4; From D2 A4; Test D6 A0; Sum D2 A8; Sum D2 A13; Sum D2 A16; Least D2 A9; Least D2 A12; Least D2 A17; Inc D6 A4; Not D6 A5; Choose D6 A4 B5 C4;"+
		"Load D2; Load D2 N5; Load D6 N1; Load D6 N6; Store A0; Store A1 N5; Store A4 N1; Store A5 N6; Copy D6 A4; Copy D2 A0; Select D2 A0 B1 C0", ";")
	for _, name := range strings.Fields("Sqrt Neg Abs Finite") {
		list = append(list, name+" D2 A0", name+" D2 A1")
	}
	for _, name := range strings.Fields("Add Sub Mul Div Min Max Less") {
		list = append(list, name+" D2 A0 B1")
	}
	for _, name := range strings.Fields("Less2 Same And Minus Over") {
		list = append(list, name+" D6 A4 B5")
	}
	return list
}

// paramOf is the parameter of an instruction that may be looped.
func paramOf(t *testing.T, text string) int {
	t.Helper()
	param := samples.LoopOf(usual(""), read(text)[0])
	if param < 0 {
		t.Fatalf("%s may not be looped", text)
	}
	return param
}

// inLoop is a text of instructions in a loop of a parameter.
func inLoop(param int, text string) string {
	return "Loop N" + string(rune('0'+param)) + ";" + text + "; Next;"
}

// TestKindsWhole: each Op but the marks is among those that may be looped, those that may not, or both, as the chapter says it.
func TestKindsWhole(t *testing.T) {
	ops := func(list []string) []int {
		var found []int
		for _, text := range list {
			found = append(found, read(text)[0].Op)
		}
		slices.Sort(found)
		return slices.Compact(found)
	}
	if got, want := ops(loopable()), []int{3, 4, 5, 6, 7, 8, 9, 10, 11, 12, 13, 14, 15, 29, 30, 31, 32, 33}; !slices.Equal(got, want) {
		t.Errorf("%v may be looped", got)
	}
	got := ops(plain())
	for op := 1; op <= 33; op++ {
		if slices.Contains(got, op) == (op >= 29 && op <= 31) {
			t.Errorf("Op %d", op)
		}
	}
	for _, text := range plain() {
		if samples.LoopOf(usual(""), read(text)[0]) >= 0 {
			t.Errorf("%s may be looped", text)
		}
	}
}

// TestAlone: FU2 and FU3, each instruction that may be looped has a loop of its own, where it stands by itself; in a block too.
func TestAlone(t *testing.T) {
	for _, text := range loopable() {
		alone := inLoop(paramOf(t, text), text)
		holdList(t, sources+wanted+text, settled+alone)
		holdList(t, sources+wanted+"When A4;"+text+"; End", settled+"When A4;"+alone+"End")
		holdList(t, sources+wanted+alone, settled+alone)
		holdList(t, sources+wanted+"When A4; When A5;"+alone+"End; End", settled+"When A4; When A5;"+alone+"End; End")
	}
}

// TestBeside: FU2 and FU3, each instruction that may be looped beside another one: in one loop if both are of the same parameter, else in
// two. In a loop they stay in their order.
func TestBeside(t *testing.T) {
	for _, text := range loopable() {
		for _, other := range []string{"Neg D9 A8", "Out A9", "Store A8 N7", "Sqrt D13 A12", "Out A12 N1", "Load D13 N8", "Abs D17 A16", "Store A17 N4"} {
			holdBeside(t, text, other)
			holdBeside(t, other, text)
		}
	}
}

// holdBeside: two instructions behind the sources. Loops that may stand in any order stand in that of their parameters: the program's own
// choice.
func holdBeside(t *testing.T, first, second string) {
	t.Helper()
	one, other := paramOf(t, first), paramOf(t, second)
	want := inLoop(one, first) + inLoop(other, second)
	switch {
	case one == other:
		want = inLoop(one, first+";"+second)
	case one > other:
		want = inLoop(other, second) + inLoop(one, first)
	}
	holdList(t, sources+wanted+first+";"+second, settled+want)
	holdList(t, sources+wanted+inLoop(one, first)+inLoop(other, second), settled+want)
}

// TestWithSources: FU2 and FU3, each instruction that may be looped goes with what sets the vectors that it reads; in as many loops as
// there are parameters.
func TestWithSources(t *testing.T) {
	for _, text := range loopable() {
		if d := holdUsual(t, usual(sources+text)); samples.Counts(d)[36] != 3 {
			t.Errorf("%s: %s", text, listed(d.List))
		}
	}
}

// TestPlain: FU2 and FU3, each instruction that may not be looped, alone and between two that may: it cuts no loop, unless it wants a
// vector whole that the loop makes.
func TestPlain(t *testing.T) {
	for _, text := range plain() {
		holdList(t, sources+wanted+text, settled+text)
		holdList(t, sources+wanted+"Neg D10 A9;"+text+"; Out A10; Grad D14; Out A14", settled+text+"; Loop; Neg D10 A9; Out A10; Next; Loop N1; Grad D14; Out A14; Next")
		loops := 3
		if i := read(text)[0]; i.Op == api.OpSum || i.Op == api.OpLeast {
			loops++
		}
		d := holdUsual(t, usual(sources+text+"; Out A8; Out A12; Out A16"))
		if samples.Counts(d)[36] != loops {
			t.Errorf("%s: %s", text, listed(d.List))
		}
	}
}

// TestNotLooped: FU2, what may not be looped stands in no loop, also where it stands between the loops of another code.
func TestNotLooped(t *testing.T) {
	for _, text := range plain() {
		d := holdUsual(t, usual(sources+"Loop; Out A8; Next;"+text+"; Loop; Out A9; Next;"+text))
		isLooped := false
		for _, i := range d.List {
			if i == read(text)[0] && isLooped {
				t.Errorf("%s stands in a loop: %s", text, listed(d.List))
			}
			isLooped = i.Op == 36 || isLooped && i.Op != 37
		}
	}
	if e, at := ir.Check(usual(sources + "Loop; Neg D2 A0; Next")); e != errCode || at != 11 {
		t.Errorf("%d at %d", e, at)
	}
}
