package verify

import (
	"strconv"
	"strings"
	"testing"

	"lathe/api"
	"lathe/samples"
)

// holdCost: VE1, these instructions of the usual code cost this in all, and the code with one of them what it costs by itself.
func holdCost(t *testing.T, text string, cost int) {
	t.Helper()
	c := behind(text)
	holdTaken(t, c, settingCost+cost, usualRoom, api.OK)
	if hold(t, c); len(c.List) == settings+1 {
		holdWeigh(t, c, settings, cost, api.OK)
	}
}

// TestEveryOp: VE1, each Op by hand, with registers and slots of each type.
func TestEveryOp(t *testing.T) {
	seen := map[int]bool{}
	for cost, list := range map[int]string{
		1: `Number D0 =3f800000; Whole D4 N300; Copy D0 A1; Copy D4 A5; Copy D16 A17; Copy D16 A0; Add D0 A0 B1; Sub D0 A0 B1; Mul D0 A0 B1; Div D0 A0 B1; Min D0 A0 B1; Max D0 A0 B1; Less D0 A0 B1;
			Sqrt D0 A0; Neg D0 A0; Abs D0 A0; Finite D0 A0; Select D0 A1 B2 C3; Add D16 A16 B17; Mul D16 A0 B1; Sqrt D17 A16; Finite D16 A2; Select D16 A17 B0 C16; From D0 A4; Test D4 A0;
			Sum D0 A16; Least D0 A17; Inc D4 A5; Less2 D4 A5 B6; Same D4 A5 B6; And D4 A5 B6; Not D4 A5; Choose D4 A5 B6 C7; Minus D4 A5 B6; Over D4 A5 B6; Grad D16; Param D17; Out A16;
			Load D0; Load D4 N1; Load D16 N4; Load D0 N5; Load D4 N6; Load D16 N9; Store A0; Store A4 N1; Store A16 N4; Store A0 N5; Store A4 N6; Store A16 N9`,
		2: `Copy D12 A13; Copy D12 A0; Add D12 A13 B14; Sub D12 A0 B14; Mul D12 A13 B0; Div D12 A0 B1; Min D12 A13 B14; Max D12 A0 B14; Less D12 A13 B0; Sqrt D12 A13; Neg D12 A0; Abs D12 A13;
			Finite D12 A0; Select D12 A13 B14 C15; Select D12 A0 B1 C2; Select D12 A0 B14 C2; Grad D12; Grad D12 N1; Param D13; Param D13 N1; Out A12; Out A12 N1; Load D12 N3; Load D12 N8; Store A12 N3; Store A12 N8;
			Sum D0 A12; Least D0 A15`,
		3: `Copy D8 A9; Copy D8 A0; Add D8 A9 B10; Sub D8 A0 B10; Mul D8 A9 B0; Div D8 A0 B1; Min D8 A9 B10; Max D8 A0 B10; Less D8 A9 B0; Sqrt D8 A9; Neg D8 A0; Abs D8 A9; Finite D8 A0;
			Select D8 A9 B10 C11; Select D8 A0 B1 C2; Select D8 A0 B1 C11; Grad D8; Param D9; Out A8; Load D8 N2; Load D8 N7; Store A8 N2; Store A8 N7; Sum D0 A8; Least D0 A11`,
		62: "Power D0 A1 B4; Power D1 A1 B5; Power D3 A0 B7",
	} {
		for _, piece := range strings.Split(list, ";") {
			holdCost(t, piece, cost)
			seen[read(piece)[0].Op] = true
		}
	}
	for text, cost := range map[string]int{"When A4; End": 2, "Loop; Next": 2, "Loop N1; Next": 2, "Loop N2; Next": 2, "When A4; Loop; Next; End": 4, "": 0} {
		holdCost(t, text, cost)
		for _, i := range read(text) {
			seen[i.Op] = true
		}
	}
	if len(seen) != 37 {
		t.Errorf("only %d kinds of instructions", len(seen))
	}
	holdTaken(t, samples.EveryOp(), 15+62+2+3+3+3+8+2+2+3+3+1+1+2+2+1+1, usualRoom, api.OK)
}

// TestWidths: VE1, parameters real and complex, of length 1 and of others up to MaxLen, at each place of the signature.
func TestWidths(t *testing.T) {
	for _, length := range []int{1, 2, 3, 62, 63, 100, maxLen - 1, maxLen} {
		for kind := 1; kind <= 2; kind++ {
			for param := range 3 {
				holdWidth(t, param, kind, length)
			}
		}
	}
}

// holdWidth: VE1, each instruction with a vector of that parameter costs as many as it has elements; the others' vectors what they did.
func holdWidth(t *testing.T, param, kind, length int) {
	t.Helper()
	change := func(c api.Code) api.Code {
		c.Sign[param].Kind, c.Sign[param].Len = kind, length
		return c
	}
	d, p, k := 8+4*param, strconv.Itoa(param), strconv.Itoa(2+param)
	list := "Loop N" + p + "; Grad D8; Param D9; Load D8 NK; Load D8 NL; Store A8 NK; Store A8 NL; Neg D9 A8; Mul D8 A8 B0; Select D8 A0 B1 C2; Copy D9 A3; Out A8; Next; Sum D0 A8; Least D1 A9; Grad D8; Store A8 NK; Add D8 A8 B9; Out A9"
	list = strings.NewReplacer("D8", "D"+strconv.Itoa(d), "D9", "D"+strconv.Itoa(d+1), "A8", "A"+strconv.Itoa(d), "A9", "A"+strconv.Itoa(d+1), "B9", "B"+strconv.Itoa(d+1), "NK", "N"+k, "NL", "N"+strconv.Itoa(7+param)).Replace(list)
	old := []int{3, 2, 1}[param]
	count := []int{4, 4, 2}[param]
	c := change(behind(list))
	holdTaken(t, c, settingCost+count*(length-old)+2+17*length, usualRoom+(count+2)*(length-old), api.OK)
	if length < 200 {
		hold(t, c)
	}
	if kind == 2 {
		c.List = append(c.List, api.Inst{Op: 29, D: d, N: 1}, api.Inst{Op: 30, D: d, N: 1}, api.Inst{Op: 31, A: d, N: 1})
		holdTaken(t, c, settingCost+count*(length-old)+2+20*length, usualRoom+(count+2)*(length-old), api.OK)
	}
	for other := range 3 {
		if other != param {
			c = change(behind("Neg D" + strconv.Itoa(8+4*other) + " A" + strconv.Itoa(8+4*other)))
			holdWeigh(t, c, settings, []int{3, 2, 1}[other], api.OK)
		}
	}
}

// TestLoops: VE1, an instruction in a loop costs what it costs elsewhere, for all elements together; the marks one each.
func TestLoops(t *testing.T) {
	for text, cost := range map[string]int{
		"Grad D8; Neg D9 A8; Load D10 N2; Store A9 N7; Out A9; Param D11": 18, "Neg D8 A0; Select D8 A0 B1 C2": 6, "": 0, "Mul D8 A8 B9": 3,
	} {
		holdCost(t, text, cost)
		holdCost(t, "Loop N0;"+text+"; Next", 2+cost)
		holdCost(t, "Loop N0;"+text+"; Next; Loop; Next; Loop N0;"+text+"; Next", 6+2*cost)
	}
	c := behind("Loop N1; Grad D12 N1; Sqrt D13 A12; Store A13 N3; Out A13 N1; Next; Sum D0 A13")
	for n, cost := range []int{1, 2, 2, 2, 2, 1, 2} {
		holdWeigh(t, c, settings+n, cost, api.OK)
	}
}

// TestBlocks: VE1, what stands in a block counts once, whether the block is ever done or not, however deep it stands.
func TestBlocks(t *testing.T) {
	for _, value := range []string{"0", "1", "2147483647"} {
		when := "Whole D4 N" + value + "; When A4;"
		holdCost(t, when+"Number D0; Grad D8; Sum D1 A8; End", 2+1+3+3+1)
		holdCost(t, when+"Power D0 A1 B5; End", 2+62+1)
		holdCost(t, when+"When A5; When A6; Power D0 A1 B5; End; End; Loop; Neg D8 A9; Next; End", 2+2+62+2+1+3+1+1)
		holdCost(t, when+"End;"+when+"Out A12 N1; End; Out A16", 3+2+2+1+1)
		deep := strings.Repeat("When A4; Inc D5 A5;", maxNest) + "Store A8 N2;" + strings.Repeat("Inc D6 A6; End;", maxNest)
		holdCost(t, "Whole D4 N"+value+";"+deep, 1+4*maxNest+3)
	}
	c := usual("Whole D4; When A4; Grad D8; Whole D5; Number D0; Power D0 A0 B5; End") // nothing but Cost asks whether it is ever done
	for place, cost := range []int{1, 1, 3, 1, 1, 62, 1} {
		holdWeigh(t, c, place, cost, api.OK)
	}
}

// TestPlaces: VE1, the first place, the last one, and those beyond, also in the spare room behind the list.
func TestPlaces(t *testing.T) {
	for _, text := range []string{"Grad D8", "Grad D8; Number D0", "Grad D8; Number D0; Whole D4 N7; Power D0 A0 B4", "Grad D8; Grad D12; Grad D16; Loop N1; Next; Sum D0 A12"} {
		c := samples.RoomyCode(usual(text))
		holdWeigh(t, c, 0, 3, api.OK)
		holdWeigh(t, c, len(c.List)-1, map[int]int{1: 3, 2: 1, 4: 62, 6: 2}[len(c.List)], api.OK)
		holdNoPlace(t, c, errArg)
		holdTaken(t, c, wantCost(c), usualRoom, api.OK)
		c.List = c.List[:0]
		holdWeigh(t, c, 0, 0, errArg)
		holdNoPlace(t, c, errArg)
	}
}

// TestWhatDoesNotCount: VE1, neither parts, numbers, beginnings of slots, Keep, nor names weigh anything.
func TestWhatDoesNotCount(t *testing.T) {
	c := behind("Number D0 =7fc00000; Whole D4 N2147483647; Grad D12 N1; Store A12 N8; Store A12 N3; Out A12 N1; Copy D0 A0; Loop N2; Next")
	holdTaken(t, c, settingCost+2+2*4+1+2, usualRoom, api.OK)
	for n := range c.Slots {
		c.Slots[n].Keep = !c.Slots[n].Keep
		if c.Slots[n].Type.Kind == 2 {
			c.Slots[n].Int = maxCount
		} else {
			c.Slots[n].Bits = 0x7fc00000
		}
	}
	for n := range c.Sign {
		c.Sign[n].Name = strings.Repeat("n", 20*n+20)
	}
	c.List[settings] = api.Inst{Op: 1, D: 3}
	c.List[settings+1] = api.Inst{Op: 2, D: 7}
	c.List[settings+2].N = 0
	holdTaken(t, c, settingCost+2+2*4+1+2, usualRoom, api.OK)
}
