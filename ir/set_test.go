package ir

import (
	"slices"
	"strconv"
	"strings"
	"testing"

	"lathe/api"
)

// holdSet: of the usual code, of which the register 2 is set alone, Check answers OK, or a fault at the place (if it is not below 0).
func holdSet(t *testing.T, text string, place int) {
	t.Helper()
	e := errCode
	if place < 0 {
		e, place = api.OK, -1
	}
	holdCheck(t, usual(append(read("Whole D2 N1"), read(text)...)...), e, place+1)
}

// TestSetAhead: IR1, a register is set by an instruction ahead of the one that reads it, not by itself nor by one behind it.
func TestSetAhead(t *testing.T) {
	holdSet(t, "Number D0; Neg D1 A0", -1)
	holdSet(t, "Neg D1 A0", 0)
	holdSet(t, "Neg D0 A0", 0)
	holdSet(t, "Neg D1 A0; Number D0", 0)
	holdSet(t, "Number D0; Neg D0 A0; Neg D1 A0; Neg D0 A1", -1)
	holdSet(t, "Number D1; Neg D1 A0", 1)
	holdSet(t, "Load D0 N0; Store A0 N6; From D1 A2; Test D3 A1; Grad D4; Param D6 N1; Sum D0 A4; Out A6; Copy D8 A0; Out A8", -1)
	holdSet(t, "Store A0 N0", 0)
	holdSet(t, "Out A4", 0)
	holdSet(t, "When A3; End", 0)
	holdSet(t, "Inc D3 A2; When A3; End", -1)
	holdSet(t, "Number D0; Store A0 N0; Load D1 N0; Neg D0 A1", -1)
}

// readers are of each row that reads, with registers 0 and 1, 2 and 3, 4 and 5 by turns in the fields.
func readers() []string {
	return []string{
		"Copy D1 A0", "Copy D4 A0", "Copy D4 A5", "Copy D2 A3", "Add D0 A0 B1", "Sub D4 A4 B0", "Mul D4 A0 B5", "Div D4 A4 B5", "Min D0 A1 B0", "Max D4 A5 B4", "Less D1 A0 B1",
		"Sqrt D0 A1", "Neg D4 A5", "Abs D4 A0", "Finite D1 A0", "Select D4 A0 B1 C5", "Select D0 A1 B0 C0", "Select D4 A5 B4 C0", "Power D0 A1 B3", "From D0 A3", "Test D2 A0", "Sum D0 A5", "Least D0 A4",
		"Inc D2 A3", "Less2 D2 A2 B3", "Same D3 A3 B2", "And D2 A3 B3", "Not D3 A2", "Choose D2 A2 B3 C2", "Choose D2 A3 B2 C2", "Choose D2 A2 B2 C3", "Minus D3 A2 B3", "Over D3 A3 B2", "Out A4", "Store A0 N0", "Store A3 N1", "Store A5 N2", "When A3",
	}
}

// TestEachIsRead: IR1, of each row and each field that is read: it is a fault just if that register is not set.
func TestEachIsRead(t *testing.T) {
	setters := strings.Split(strings.TrimSuffix(setAll, ";"), ";")
	for _, text := range readers() {
		i := read(text)[0]
		reads := wantReads(i)
		if len(reads) == 0 {
			t.Errorf("%s reads nothing", text)
		}
		for missing := -1; missing < len(setters); missing++ {
			kept := slices.Clone(setters)
			if missing >= 0 {
				kept[missing] = "Number D0"
				if missing == 0 {
					kept[0] = "Number D1"
				}
			}
			c := usual(append(read(strings.Join(kept, ";")), i)...)
			e, place := api.OK, 0
			if slices.Contains(reads, missing) {
				e, place = errCode, 9
			} else if i.Op == api.OpWhen {
				e, place = errCode, 10
			}
			holdCheck(t, c, e, place)
		}
	}
}

// TestSetInBlocks: IR1, what a block of OpWhen sets is set in it, and not behind it, unless it was ahead.
func TestSetInBlocks(t *testing.T) {
	holdSet(t, "When A2; Number D0; Neg D1 A0; End", -1)
	holdSet(t, "When A2; Number D0; End; Neg D1 A0", 3)
	holdSet(t, "When A2; Neg D1 A0; Number D0; End", 1)
	holdSet(t, "Number D0; When A2; Number D0; End; Neg D1 A0", -1)
	holdSet(t, "Number D0; When A2; Neg D0 A0; End; Neg D1 A0", -1)
	holdSet(t, "When A2; Number D0; End; Number D0; Neg D1 A0", -1)
	holdSet(t, "When A2; Number D0; End; When A2; Neg D1 A0; End", 4)
	holdSet(t, "When A2; Number D0; End; When A2; Number D0; Neg D1 A0; End", -1)
	holdSet(t, "When A2; Number D0; End; When A2; Number D0; End; Neg D1 A0", 6)
	holdSet(t, "When A2; Number D0; End; Not D3 A2; When A3; Number D0; End; Neg D1 A0", 7)
	holdSet(t, "When A2; When A2; Number D0; End; Neg D1 A0; End", 4)
	holdSet(t, "When A2; When A2; Number D0; End; Number D0; Neg D1 A0; End", -1)
	holdSet(t, "When A2; Number D0; When A2; Neg D1 A0; End; Neg D1 A0; End", -1)
	holdSet(t, "When A2; Number D0; When A2; Number D0; End; Neg D1 A0; End; Neg D1 A0", 7)
	holdSet(t, "When A2; Number D0; When A2; Number D1; End; Neg D0 A0; Neg D0 A1; End", 6)
	holdSet(t, "Number D0; When A2; When A2; Number D0; Number D1; End; End; Neg D0 A0; Neg D0 A1", 8)
	holdSet(t, "When A2; Whole D3; End; When A3; End", 3)
	holdSet(t, "When A2; Whole D3; When A3; End; End", -1)
	holdSet(t, "When A2; Number D0; End; When A2; Number D1; Neg D1 A1; End; When A2; Number D0; Neg D1 A0; Neg D0 A1; End; Neg D0 A1", 12)
	holdSet(t, "When A2; Inc D2 A2; End; When A2; End; Inc D2 A2", -1)
}

// TestSetInLoops: IR1, what a loop sets is set behind it; in a block of OpWhen, up to the end of that.
func TestSetInLoops(t *testing.T) {
	holdSet(t, "Loop; Grad D4; Next; Out A4", -1)
	holdSet(t, "Loop; Grad D4; Next; Loop; Neg D5 A4; Next; Sum D0 A5; Neg D1 A0", -1)
	holdSet(t, "Loop; Neg D5 A4; Grad D4; Next", 1)
	holdSet(t, "Loop; Neg D4 A4; Next", 1)
	holdSet(t, "Loop; Copy D4 A0; Next; Number D0", 1)
	holdSet(t, "When A2; Loop; Grad D4; Next; Out A4; End", -1)
	holdSet(t, "When A2; Loop; Grad D4; Next; End; Out A4", 5)
	holdSet(t, "When A2; Loop; Grad D4; Next; Neg D5 A4; End; Loop; Out A5; Next", 7)
	holdSet(t, "When A2; When A2; Loop; Grad D4; Next; End; Out A4; End", 6)
	holdSet(t, "When A2; Loop; Grad D4; Next; When A2; Out A4; End; Out A4; End; Out A4", 9)
	holdSet(t, "Loop; Grad D4; Next; When A2; Loop; Grad D4; Grad D5; Next; End; Out A4; Out A5", 10)
	holdSet(t, "Grad D4; When A2; Loop; Neg D4 A4; Next; End; Loop; Out A4; Next", -1)
	holdSet(t, "Loop; Grad D4; Next; Loop; Out A4; Out A5; Next", 5)
}

// TestManySet: IR1, many registers that blocks in one another set: at each depth those of the blocks about it are set, and no others.
func TestManySet(t *testing.T) {
	c := api.Code{Regs: append(slices.Repeat([]api.Type{numberType()}, 2*maxNest), wholeType())}
	when := api.Inst{Op: api.OpWhen, A: 2 * maxNest}
	c.List = []api.Inst{{Op: api.OpWhole, D: 2 * maxNest}}
	for depth := range maxNest {
		c.List = append(c.List, when, api.Inst{Op: api.OpNumber, D: depth})
	}
	for depth := maxNest - 1; depth >= 0; depth-- {
		c.List = append(c.List, api.Inst{Op: api.OpNumber, D: maxNest + depth}, api.Inst{Op: api.OpEnd})
	}
	holdCheck(t, c, api.OK, 0)
	for at := range c.List {
		if c.List[at].Op == api.OpEnd {
			continue
		}
		for _, register := range []int{0, 1, at / 2, at/2 + 1, maxNest - 1, maxNest, 2*maxNest - 1} {
			if register < 2*maxNest {
				more := c
				more.List = slices.Insert(slices.Clone(c.List), at, api.Inst{Op: api.OpAbs, D: register, A: register})
				e, place := wantCheck(more)
				holdCheck(t, more, e, place)
			}
		}
	}
}

// TestTurns: IR1, one block behind the other, each of which sets and reads a register of its own, or that of the one ahead.
func TestTurns(t *testing.T) {
	var good, bad []string
	for i := range 500 {
		own, ahead := strconv.Itoa(i%2), strconv.Itoa((i+1)%2)
		good = append(good, "When A2; Number D"+own+"; Neg D"+own+" A"+own+"; End")
		bad = append(bad, "When A2; Number D"+own+"; End")
		text := strings.Join(good, ";")
		if i%50 == 0 {
			holdSet(t, text, -1)
			holdSet(t, text+"; Neg D"+own+" A"+own, 4*len(good))
			holdSet(t, strings.Join(bad, ";")+"; When A2; Number D"+own+"; Neg D0 A"+ahead+"; End", 3*len(bad)+2)
		}
	}
}
