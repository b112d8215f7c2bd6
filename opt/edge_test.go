package opt

import (
	"slices"
	"strings"
	"testing"

	"lathe/api"
	"lathe/samples"
)

// told are edges and NaNs that may stand in code.
func told() []api.F {
	return slices.DeleteFunc(samples.Edges(), func(a api.F) bool { return !samples.IsTold(a) })
}

// incoming are patterns that may come in: edges, and NaNs of many patterns.
func incoming() []api.F { return append(samples.Edges(), samples.NaNs()...) }

// over is code over a complex parameter that has as many elements as there are such patterns, with registers 0 to 3 numbers, 4 and 5 whole
// numbers, 6 to 11 vectors.
func over(text string) api.Code {
	number, whole, z := api.Type{Kind: 1}, api.Type{Kind: 2}, api.Type{Kind: 3}
	return api.Code{
		Sign: []api.Param{{Name: "z", Kind: 2, Len: len(incoming())}}, Regs: []api.Type{number, number, number, number, whole, whole, z, z, z, z, z, z},
		Slots: []api.Slot{{Type: number, Keep: true, Bits: api.Minus}, {Type: whole, Keep: true}, {Type: z, Keep: true}}, List: read(text),
	}
}

// holdEdges: OP3 and P12, the updates of code are the same behind each choice of the passes where each pattern comes in, and with each other
// one as the other part.
func holdEdges(t *testing.T, c api.Code) {
	t.Helper()
	w, list := crewOf(t, c), incoming()
	for turn := range []int{0, 1, 7, 20} {
		grads, params := make([]api.F, 0, 2*len(list)), make([]api.F, 0, 2*len(list))
		for n, a := range list {
			other := list[(n*5+turn)%len(list)]
			grads, params = append(grads, a, other), append(params, other, a)
		}
		for _, u := range w.step(t, [][]api.F{grads}, [][]api.F{params}) {
			if slices.ContainsFunc(u, func(a api.F) bool { return !samples.IsTold(a) }) {
				t.Fatalf("%08x: %s", u, samples.Show(c))
			}
		}
	}
}

// TestEdgesHandedOn: OP3 and P12, what comes in is handed on as it is, but for NaNs, through copies, slots and loops.
func TestEdgesHandedOn(t *testing.T) {
	for _, text := range []string{
		"Grad D6; Out A6; Grad D7 N1; Out A7 N1", "Grad D6; Copy D7 A6; Copy D8 A7; Out A8; Param D9; Out A9 N1", "Load D6 N2; Out A6; Grad D7; Store A7 N2; Load D8 N2; Out A8 N1", "Loop; Grad D6; Out A6; Next; Loop; Out A6 N1; Next",
		"Grad D6; Sum D0 A6; Least D1 A6; Copy D7 A0; Out A7; Copy D8 A1; Out A8 N1", "Param D6 N1; Sqrt D7 A6; Abs D8 A6; Out A7; Out A8 N1", "Grad D6; Neg D7 A6; Finite D8 A6; Out A7; Out A8 N1", "Grad D6; Neg D7 A6; Neg D8 A7; Out A8; Neg D9 A8; Out A9 N1",
	} {
		holdEdges(t, over(text))
	}
}

// TestEdgesOfConstants: OP3 and P12, each elementwise instruction of two with each edge as a constant on either side: those that change
// nothing, and those that nearly do.
func TestEdgesOfConstants(t *testing.T) {
	for _, name := range strings.Fields("Add Sub Mul Div Min Max Less") {
		for _, a := range told() {
			c := over("Number D0; Grad D6; " + name + " D7 A6 B0; " + name + " D8 A0 B6; Out A7; Out A8 N1")
			c.List[0].Bits = a
			holdEdges(t, c)
		}
	}
}

// TestEdgesOfSelves: OP3 and P12, each elementwise instruction with one thing twice, and with what is the same by another name.
func TestEdgesOfSelves(t *testing.T) {
	for _, name := range strings.Fields("Add Sub Mul Div Min Max Less") {
		holdEdges(t, over("Grad D6; "+name+" D7 A6 B6; Copy D8 A6; "+name+" D9 A8 B6; Out A7; Out A9 N1"))
		holdEdges(t, over("Grad D6; Grad D7; Param D8 N1; "+name+" D9 A6 B8; "+name+" D10 A7 B8; "+name+" D11 A9 B10; Out A9; Out A11 N1"))
		holdEdges(t, over("Grad D6; Sum D0 A6; Sum D1 A6; "+name+" D2 A0 B1; Least D3 A6; "+name+" D3 A2 B3; "+name+" D7 A6 B3; Out A7; Copy D8 A2; Out A8 N1"))
	}
	for _, text := range []string{"Select D9 A6 B7 C8", "Select D9 A6 B6 C6", "Select D9 A7 B8 C8", "Select D9 A8 B6 C7", "Copy D10 A6; Select D9 A6 B10 C7"} {
		holdEdges(t, over("Grad D6; Param D7; Grad D8 N1;"+text+"; Out A9; Out A8 N1"))
	}
}

// TestEdgesChosen: OP3 and P12, each edge as the constant that chooses, and as one of those that are chosen from; and as what a block hangs on.
func TestEdgesChosen(t *testing.T) {
	for _, a := range told() {
		for _, text := range []string{
			"Number D0; Grad D6; Param D7; Select D8 A0 B6 C7; Out A8; Select D9 A6 B0 C7; Out A9 N1", "Number D0; Grad D6; Select D7 A6 B6 C0; Out A7; Select D8 A0 B0 C6; Out A8 N1", "Number D0; Test D4 A0; Grad D6; When A4; Out A6; End; Not D5 A4; When A5; Out A6 N1; End",
			"Number D0; Whole D4 N3; Power D1 A0 B4; Power D2 A1 B4; Grad D6; Add D7 A6 B1; Mul D8 A6 B2; Out A7; Out A8 N1", "Number D0; Load D1; Add D2 A1 B0; Store A2; Copy D6 A2; Out A6; Mul D3 A1 B0; Copy D7 A3; Out A7 N1",
			"Number D0; Load D4 N1; Number D1 =3f800000; When A4; Store A0; End; Inc D4 A4; Store A4 N1; Load D2; Mul D2 A2 B1; Copy D6 A2; Out A6; Div D3 A2 B1; Copy D7 A3; Out A7 N1",
		} {
			c := over(text)
			c.List[0].Bits = a
			holdEdges(t, c)
		}
	}
}

// TestNothingMore: P12, what looks as if it changed nothing stays: x * 0, x + 0, x - x, x / x and the like are not simplified away by any of
// the passes.
func TestNothingMore(t *testing.T) {
	for _, x := range []struct {
		text string
		in   api.F
		want api.F
	}{
		{"Number D0; Grad D6; Mul D7 A6 B0; Out A7", 0x7f800000, 0x7fc00000}, {"Number D0; Grad D6; Mul D7 A6 B0; Out A7", 0xbf800000, 0x80000000}, {"Number D0; Grad D6; Add D7 A6 B0; Out A7", 0x80000000, 0},
		{"Number D0 =80000000; Grad D6; Sub D7 A6 B0; Out A7", 0x80000000, 0}, {"Grad D6; Sub D7 A6 B6; Out A7", 0xff800000, 0x7fc00000}, {"Grad D6; Div D7 A6 B6; Out A7", 0x80000000, 0x7fc00000},
		{"Number D0 =bf800000; Grad D6; Mul D7 A6 B0; Out A7", 0x80000000, 0}, {"Number D0 =80000000; Grad D6; Add D7 A6 B0; Out A7", 0x80000000, 0x80000000}, {"Number D0; Grad D6; Sub D7 A6 B0; Out A7", 0x80000000, 0x80000000},
		{"Number D0 =3f800000; Grad D6; Mul D7 A6 B0; Out A7", 0xff800001, 0x7fc00000}, {"Number D0 =3f800000; Grad D6; Div D7 A6 B0; Out A7", 1, 1}, {"Number D0; Grad D6; Sub D7 A0 B6; Out A7", 0, 0},
		{"Grad D6; Min D7 A6 B6; Out A7", 0xffc00000, 0x7fc00000}, {"Grad D6; Less D7 A6 B6; Out A7", 0x7f800001, 0}, {"Grad D6; Neg D7 A6; Neg D8 A7; Out A8", 0xffc00000, 0x7fc00000}, {"Number D0; Grad D6; Max D7 A6 B0; Out A7", 0x7fc00001, 0x7fc00000},
	} {
		w := crewOf(t, over(x.text))
		in := [][]api.F{slices.Repeat([]api.F{x.in}, 2*len(incoming()))}
		if u := w.step(t, in, in); u[0][0] != x.want {
			t.Errorf("%s of %08x: %08x, want %08x", x.text, x.in, u[0][0], x.want)
		}
	}
}
