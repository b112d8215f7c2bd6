package ir

import (
	"slices"
	"strings"
	"testing"

	"lathe/api"
)

// TestBlocks: IR1, blocks stand in one another as brackets do.
func TestBlocks(t *testing.T) {
	holdTaken(t,
		"When A2; End", "When A2; When A3; End; End", "When A2; End; When A2; End", "When A2; When A2; End; When A2; End; End; When A3; End",
		"Loop; Next", "Loop; Next; Loop; Next; Loop N1; Next", "When A2; Loop; Next; End", "When A2; When A2; Loop N2; Next; End; Loop N2; Next; End; Loop N2; Next",
	)
	holdRefused(t, 0, "End", "Next", "End; When A2", "Next; Loop")
	holdRefused(t, 1, "When A2; Next", "Loop; End", "When A2; Next; End", "Loop; End; Next", "Loop; Loop", "Loop; When A2", "Loop; Loop; Next; Next", "Loop N1; When A2; End; Next", "Loop; Loop N1")
	holdRefused(t, 2, "When A2; End; End", "Loop; Next; Next", "Loop; Next; End", "When A2; End; Next", "When A2; Loop; End; Next", "When A2; Loop; End", "When A2; Loop; Loop", "When A2; Loop; When A2")
	holdRefused(t, 3, "When A2; When A2; End", "When A2; Loop; Next; Next", "When A2; Loop; Next", "When A2; When A2; When A2")
	holdRefused(t, 4, "When A2; When A2; End; End; End")
}

// nested is so many blocks of OpWhen in one another, with that in the innermost; all is behind one that sets register 2.
func nested(depth int, inner string) api.Code {
	list := slices.Concat(read("Whole D2"), slices.Repeat(read("When A2"), depth), read(inner), slices.Repeat(read("End"), depth))
	return usual(list...)
}

// TestNest: IR1, MaxNest blocks in one another and one more, the innermost one a loop too.
func TestNest(t *testing.T) {
	for _, depth := range []int{1, 2, maxNest - 2, maxNest - 1, maxNest} {
		holdCheck(t, nested(depth, ""), api.OK, 0)
		holdCheck(t, nested(depth, "Number D0; Neg D0 A0"), api.OK, 0)
		holdCheck(t, nested(depth-1, "Loop; Grad D4; Next; Loop N1; Next; When A2; End; Loop N2; Next"), api.OK, 0)
		holdCheck(t, nested(depth-1, "When A2; End; When A2; End; When A2; Number D0; End"), api.OK, 0)
	}
	for _, inner := range []string{"When A2", "Loop", "When A2; End", "Loop; Next"} {
		holdCheck(t, nested(maxNest, inner), errCode, 1+maxNest)
		holdCheck(t, nested(maxNest, "Number D0; Whole D3; "+inner), errCode, 3+maxNest)
		holdCheck(t, nested(maxNest-1, "When A2; End; When A2; "+inner), errCode, 3+maxNest)
		holdCheck(t, nested(maxNest-1, "Loop; "+inner), errCode, 1+maxNest)
	}
	for _, depth := range []int{maxNest + 1, maxNest + 2, 1000} {
		holdCheck(t, nested(depth, ""), errCode, 1+maxNest)
	}
	open := usual(slices.Concat(read("Whole D2"), slices.Repeat(read("When A2"), maxNest))...)
	holdCheck(t, open, errCode, 1+maxNest)
}

// TestLoops: IR1, in a loop stands what works on vectors of its parameter, and nothing else.
func TestLoops(t *testing.T) {
	of := map[int]string{
		0: "Copy D4 A5; Copy D4 A0; Grad D4; Param D5; Out A4; Load D4 N2; Store A5 N2; Select D4 A0 B5 C4; Add D4 A0 B1; Neg D5 A1; Less D4 A4 B4",
		1: "Copy D6 A7; Copy D6 A0; Grad D6; Grad D7 N1; Param D7; Param D6 N1; Out A6; Out A7 N1; Load D7 N3; Store A6 N3; Select D6 A7 B0 C6; Mul D7 A0 B6",
		2: "Copy D8 A8; Copy D8 A1; Grad D8; Param D8; Out A8; Load D8 N4; Store A8 N4; Select D8 A8 B8 C0; Sqrt D8 A8; Finite D8 A0",
	}
	for param, text := range of {
		for other := range 3 {
			for _, i := range strings.Split(text, ";") {
				loop := []string{"Loop N0; ", "Loop N1; ", "Loop N2; "}[other]
				if other == param {
					holdTaken(t, loop+i+"; Next", loop+i+";"+i+"; Next", "When A2;"+loop+i+"; Next; End")
				} else {
					holdRefused(t, 1, loop+i+"; Next")
					holdRefused(t, 2, "When A3;"+loop+i+"; Next; End")
				}
			}
			holdTaken(t, text)
		}
	}
	for _, i := range []string{
		"Number D0", "Whole D2", "Copy D0 A1", "Copy D2 A3", "Add D0 A0 B1", "Less D1 A0 B0", "Neg D0 A0", "Finite D1 A0", "Select D0 A0 B0 C0", "Power D0 A0 B2", "From D0 A2", "Test D2 A0",
		"Sum D0 A4", "Least D0 A4", "Inc D2 A2", "Less2 D2 A2 B2", "Same D2 A2 B2", "And D2 A2 B2", "Not D2 A2", "Choose D2 A2 B2 C2", "Minus D2 A2 B2", "Over D2 A2 B2",
		"Load D0 N0", "Load D2 N1", "Store A0 N0", "Store A2 N1", "When A2", "Loop", "End",
	} {
		holdRefused(t, 1, "Loop; "+i+"; Next")
		holdRefused(t, 2, "Loop N0; Neg D4 A4; "+i)
		if i != "End" && i != "When A2" && i != "Loop" {
			holdTaken(t, i, "When A2; "+i+"; End", "Loop; Next; "+i)
		}
	}
}

// TestEachInALoop: IR1, of each row all registers in a loop of each parameter.
func TestEachInALoop(t *testing.T) {
	for param := range 3 {
		c, ahead := behind("Loop")
		c.List[ahead].N = param
		for _, op := range ops() {
			for d := range 9 {
				for a := range 9 {
					for _, rest := range []api.Inst{{}, {N: 1}, {N: 2}, {N: 3}, {N: 4}, {B: 1}, {B: 2}, {B: 4}, {B: 7}, {B: 8}, {B: 4, C: 4}, {B: 6, C: 1}, {C: 2, B: 2}} {
						i := rest
						i.Op, i.D, i.A = op, d, a
						c.List = append(c.List[:ahead+1:ahead+1], i, api.Inst{Op: api.OpNext})
						e, at := wantCheck(c)
						holdCheck(t, c, e, at)
					}
				}
			}
		}
	}
}
