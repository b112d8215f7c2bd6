package reuse

import (
	"fmt"
	"slices"
	"strings"
	"testing"

	"lathe/api"
	"lathe/samples"
)

// operands sets what the setters read, by loads, which are no twins.
const operands = "Load D0; Load D1 N5; Load D4 N1; Load D5 N6; Load D8 N2; Load D9 N7; Load D12 N3; Load D13 N8; Load D16 N4;"

// setters are instructions of every Op that has twins, with each type of D that it may have, in words that read sees.
func setters() []string {
	list := strings.Split("Number D2 =40000000; Number D2; Number D2 =80000000; Number D2 =7fc00000; Number D2 =ff800000; Whole D6; Whole D6 N3; Whole D6 N2147483647; "+
		"Select D2 A0 B1 C0; Select D10 A8 B9 C8; Select D10 A0 B8 C1; Select D10 A0 B1 C0; Select D14 A12 B13 C1; Select D17 A16 B0 C1; "+
		"Power D2 A0 B4; Power D2 A1 B5; From D2 A4; Test D6 A0; Sum D2 A8; Sum D2 A12; Sum D2 A16; Least D2 A8; Least D2 A13; Inc D6 A4; Not D6 A5; Choose D6 A4 B5 C4; "+
		"Grad D10; Grad D14; Grad D14 N1; Grad D17; Param D10; Param D14; Param D14 N1; Param D17", ";")
	for _, op := range strings.Fields("Add Sub Mul Div Min Max Less") {
		for _, fields := range []string{"D2 A0 B1", "D2 A0 B0", "D10 A8 B9", "D10 A0 B8", "D10 A8 B0", "D10 A0 B1", "D14 A12 B13", "D14 A0 B13", "D17 A16 B16", "D17 A1 B1"} {
			list = append(list, op+" "+fields)
		}
	}
	for _, op := range strings.Fields("Sqrt Neg Abs Finite") {
		for _, fields := range []string{"D2 A0", "D10 A8", "D10 A0", "D14 A13", "D14 A1", "D17 A16", "D17 A0"} {
			list = append(list, op+" "+fields)
		}
	}
	for _, op := range strings.Fields("Less2 Same And Minus Over") {
		list = append(list, op+" D6 A4 B5", op+" D6 A5 B4", op+" D6 A4 B4")
	}
	return list
}

// TestSettersWhole: the list has every Op that sets a register but OpLoad and OpCopy.
func TestSettersWhole(t *testing.T) {
	var ops []int
	for _, text := range setters() {
		ops = append(ops, read(text)[0].Op)
	}
	slices.Sort(ops)
	if ops = slices.Compact(ops); len(ops) != 29 || slices.Contains(ops, 3) || ops[28] != 30 {
		t.Errorf("%v", ops)
	}
}

// A play puts an instruction and its twins into a text: 1, 2 and 3 in it are these, a, b and c what uses them, W the beginning of a block,
// E its end, L the beginning of a loop, N its end, and x something else.
type play struct{ set, use api.Inst }

func playOf(text string) play {
	i := read(text)[0]
	p := play{set: i, use: api.Inst{Op: api.OpStore, A: i.D}}
	p.use.N = map[int]int{2: 5, 6: 6, 10: 7, 14: 8, 17: 9}[i.D]
	return p
}

// written is a text's instructions. All that read the register of a twin read that of another one instead, as a list says it.
func (p play) written(text string, instead [3]int) []api.Inst {
	list := read(operands + "Load D7 N1")
	loop := api.Inst{Op: api.OpLoop, N: map[int]int{14: 1, 17: 2}[p.set.D]}
	for at, word := range text {
		set, use := p.set, p.use
		switch word {
		case '1', '2', '3':
			set.D += apart * int(word-'1')
			list = append(list, set)
		case 'a', 'b', 'c':
			use.A += apart * instead[word-'a']
			if at%2 == 1 {
				use.N -= 5 // the kept slot of that type
			}
			list = append(list, use)
		case 'W':
			list = append(list, api.Inst{Op: api.OpWhen, A: 7})
		case 'E':
			list = append(list, api.Inst{Op: api.OpEnd})
		case 'L':
			list = append(list, loop)
		case 'N':
			list = append(list, api.Inst{Op: api.OpNext})
		case 'x':
			list = append(list, read(fmt.Sprintf("Load D%d N1; Inc D%d A%d; Store A%d N1", 59+at*apart%36, 60+at*apart%36, 59+at*apart%36, 60+at*apart%36))...)
		}
	}
	return list
}

// hold: what becomes of a text. A blank in what is wanted keeps the places of both texts alike, so that the same slots are used.
func (p play) hold(t *testing.T, text, want string, instead [3]int) {
	t.Helper()
	c := wide("")
	c.List = p.written(text, [3]int{0, 1, 2})
	if !samples.IsSingle(c) {
		t.Fatalf("%s: %s is not single", text, samples.Show(c))
	}
	d := holdWide(t, c)
	if list := p.written(want, instead); !slices.Equal(d.List, list) {
		t.Errorf("%s: %s became %s, want %s", text, samples.Show(c), listed(d.List), listed(list))
	}
}

// TestTwins: RE3, twins of each Op, next to one another, far apart, in blocks within blocks, in and behind a block.
func TestTwins(t *testing.T) {
	for _, text := range setters() {
		p := playOf(text)
		for _, c := range []struct {
			text, want string
			instead    [3]int
		}{
			{"12", "1 ", [3]int{}},
			{"12ab", "1 ab", [3]int{}},
			{"12ba", "1 ba", [3]int{}},
			{"1a2b3c", "1a b c", [3]int{}},
			{"1xa2xb", "1xa xb", [3]int{}},
			{"1W2bE", "1W bE", [3]int{}},
			{"1W2bEa", "1W bEa", [3]int{}},
			{"1WW2bEaE3c", "1WW bEaE c", [3]int{}},
			{"1WW2E3cEa", "1WW E cEa", [3]int{}},
			{"W1W2bEaE", "W1W bEaE", [3]int{}},
			{"W1W2bE3cEx", "W1W bE cEx", [3]int{}},
			{"W1aE2b", "W1aE2b", [3]int{0, 1, 2}},
			{"W1aEW2bE", "W1aEW2bE", [3]int{0, 1, 2}},
			{"W1aEW2bE3c", "W1aEW2bE3c", [3]int{0, 1, 2}},
			{"W1aE2W3cEb", "W1aE2W cEb", [3]int{0, 1, 1}},
			{"W1aE2b3c", "W1aE2b c", [3]int{0, 1, 1}},
			{"WW1aE2W3cEbE", "WW1aE2W cEbE", [3]int{0, 1, 1}},
			{"WW1aE2bE3c", "WW1aE2bE3c", [3]int{0, 1, 2}},
			{"1WEaW2bE", "1WEaW bE", [3]int{}},
			{"W1WaE2bEW3cE", "W1WaE bEW3cE", [3]int{0, 0, 2}},
			{"1WW2bE3cE", "1WW bE cE", [3]int{}},
			{"1LN2ab", "1LN ab", [3]int{}},
			{"1WLN2bELNa", "1WLN bELNa", [3]int{}},
		} {
			p.hold(t, c.text, c.want, c.instead)
		}
	}
}

// TestLoopedTwins: RE3, twins in one loop, in two, in and around loops: loops do not count.
func TestLoopedTwins(t *testing.T) {
	looped := 0
	for _, text := range setters() {
		p := playOf(text)
		if p.set.D < 8 {
			continue
		}
		looped++
		for _, c := range []struct {
			text, want string
			instead    [3]int
		}{
			{"L12abN", "L1 abN", [3]int{}},
			{"L1aN2b", "L1aN b", [3]int{}},
			{"1aL2bN", "1aL bN", [3]int{}},
			{"1L2Nb", "1L Nb", [3]int{}},
			{"L1NL2bN3c", "L1NL bN c", [3]int{}},
			{"L1NxL2bNxab", "L1NxL bNxab", [3]int{}},
			{"1WL2bNEL3cN", "1WL bNEL cN", [3]int{}},
			{"L1NWL2bNE3c", "L1NWL bNE c", [3]int{}},
			{"WL1aNEL2bN", "WL1aNEL2bN", [3]int{0, 1, 2}},
			{"WL1NWL2bNE3cEx", "WL1NWL bNE cEx", [3]int{}},
			{"WL1aNL2bNEL3cN", "WL1aNL bNEL3cN", [3]int{0, 0, 2}},
			{"WL1aNE2L3cN", "WL1aNE2L cN", [3]int{0, 1, 1}},
		} {
			p.hold(t, c.text, c.want, c.instead)
		}
	}
	if looped < 60 {
		t.Errorf("%d were looped", looped)
	}
}

// TestNoTwins: RE3, what looks like twins: another N, other Bits, another type of D, another Op, other registers, loads and copies.
func TestNoTwins(t *testing.T) {
	for _, text := range []string{
		"Number D0; Number D18 =80000000; Number D1 =00000001; Number D19 =7f800000; Number D2 =ff800000; Number D20 =7fc00000",
		"Whole D4; Whole D22 N1; Whole D5 N2; Number D0; Grad D8; Param D9; Grad D12",
		"Grad D12; Grad D13 N1; Param D14; Param D15 N1",
		"Grad D8; Grad D16; Grad D12; Param D9; Param D17; Param D13",
		"Load D0; Neg D1 A0; Neg D8 A0; Neg D12 A0; Neg D16 A0; Abs D2 A0; Sqrt D3 A0; Finite D9 A0",
		"Load D0; Load D1 N5; Add D2 A0 B1; Add D3 A1 B0; Add D18 A0 B0; Add D19 A1 B1; Sub D20 A0 B1; Mul D21 A0 B1; Div D36 A0 B1; Min D37 A0 B1; Max D38 A0 B1; Less D39 A0 B1; Add D8 A0 B1; Add D12 A0 B1",
		"Load D0; Load D1 N5; Select D2 A0 B1 C1; Select D3 A0 B1 C0; Select D18 A0 B0 C1; Select D19 A1 B1 C1; Select D8 A0 B1 C1",
		"Load D4 N1; Load D5 N6; Less2 D6 A4 B5; Less2 D7 A5 B4; Same D22 A4 B5; And D23 A4 B5; Minus D24 A4 B5; Over D25 A4 B5; Choose D40 A4 B5 C4; Choose D41 A4 B4 C5; Inc D42 A4; Not D43 A4; Inc D58 A5",
		"Load D0; Load D1 N5; Load D4 N1; Load D5 N6; Power D2 A0 B4; Power D3 A0 B5; Power D18 A1 B4; From D19 A4; From D20 A5; Test D6 A0; Test D7 A1",
		"Grad D8; Param D9; Grad D12; Sum D0 A8; Sum D1 A9; Sum D2 A12; Least D3 A8; Least D18 A9",
		"Load D0; Load D18; Load D4 N1; Load D22 N1; Load D8 N2; Load D26 N2; Store A18 N5; Store A22 N6; Store A26 N7",
		"Load D0; Store A0 N5; Load D1 N5; Neg D2 A1; Store A2 N5; Load D3 N5; Store A3",
		"Loop; Load D8 N2; Load D9 N2; Add D10 A8 B9; Store A10 N2; Load D11 N2; Out A11; Next",
		"Load D0; Copy D8 A0; Copy D9 A0; Copy D12 A0; Copy D16 A0; Add D10 A8 B9; Out A10; Out A12; Out A16",
		"Load D0; Loop; Copy D8 A0; Copy D9 A0; Out A8; Store A9 N2; Next",
		"Load D0; Load D18; Neg D1 A0; Neg D19 A18; Store A1; Store A19 N5", // what the loads make may be unlike
		"Load D0; Copy D8 A0; Copy D9 A0; Neg D10 A8; Neg D11 A9; Out A10; Store A11 N2",
		"Grad D8; Neg D9 A8; Neg D10 A9; Neg D11 A10; Neg D26 A11; Out A26",
		"Loop; Next; Loop; Next; Load D4 N1; When A4; End; When A4; End",
	} {
		holdStays(t, text)
	}
}

// TestBecomeTwins: RE3, what becomes twins only once copies or other twins are gone.
func TestBecomeTwins(t *testing.T) {
	for _, c := range [][2]string{
		{"Grad D8; Copy D9 A8; Neg D10 A8; Neg D11 A9; Out A11", "Grad D8; Neg D10 A8; Out A10"},
		{"Grad D8; Grad D9; Neg D10 A8; Neg D11 A9; Abs D26 A10; Abs D27 A11; Sum D0 A26; Sum D1 A27; Mul D2 A0 B1; Store A2", "Grad D8; Neg D10 A8; Abs D26 A10; Sum D0 A26; Mul D2 A0 B0; Store A2"},
		{"Grad D8; Param D9; Grad D26; Param D27; Add D10 A8 B27; Add D11 A26 B9; Copy D28 A11; Sub D29 A10 B28; Sub D44 A28 B11; Out A29; Store A44 N2", "Grad D8; Param D9; Add D10 A8 B9; Sub D29 A10 B10; Out A29; Store A29 N2"},
		{"Load D4 N1; Copy D5 A4; Inc D6 A4; Inc D7 A5; Copy D22 A7; Same D23 A6 B22; Same D24 A22 B6; When A24; Store A22 N1; End; When A23; Store A23 N6; End", "Load D4 N1; Inc D6 A4; Same D23 A6 B6; When A23; Store A6 N1; End; When A23; Store A23 N6; End"},
		{"Number D0 =40000000; Number D1 =40000000; Copy D2 A1; Copy D8 A0; Add D9 A0 B8; Add D10 A2 B8; Out A10", "Number D0 =40000000; Copy D8 A0; Add D9 A0 B8; Out A9"},
		{"Load D4 N1; Grad D8; When A4; Grad D9; Neg D10 A9; Store A10 N2; End; Neg D11 A8; When A4; Neg D26 A8; Out A26; End; Copy D27 A11; Out A27", "Load D4 N1; Grad D8; When A4; Neg D10 A8; Store A10 N2; End; Neg D11 A8; When A4; Out A11; End; Out A11"},
		{"Loop; Grad D8; Next; Loop; Grad D9; Copy D10 A9; Abs D11 A10; Next; Abs D26 A8; Loop; Out A26; Store A11 N2; Next", "Loop; Grad D8; Next; Loop; Abs D11 A8; Next; Loop; Out A11; Store A11 N2; Next"},
		{"Load D0; Copy D1 A0; Select D2 A0 B1 C0; Select D3 A1 B0 C1; Copy D18 A3; Less D19 A18 B2; Store A19", "Load D0; Select D2 A0 B0 C0; Less D19 A2 B2; Store A19"},
		{"Whole D4 N2; Whole D5 N2; Load D0; Copy D1 A0; Power D2 A0 B4; Power D3 A1 B5; Select D18 A2 B3 C0; Select D19 A3 B2 C1; Store A19", "Whole D4 N2; Load D0; Power D2 A0 B4; Select D18 A2 B2 C0; Store A18"},
	} {
		holdList(t, c[0], c[1])
	}
}
