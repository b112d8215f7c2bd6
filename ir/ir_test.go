package ir

import (
	"testing"

	"lathe/api"
	"lathe/samples"
)

// The document's numbers once more, so that a change of package api is seen.
const (
	errLong  api.Errno = 2
	errParam api.Errno = 100
	errTwice api.Errno = 101
	errTotal api.Errno = 102
	errCode  api.Errno = 160
	errSlots api.Errno = 180
	errSize  api.Errno = 181

	typeNumber = 1
	typeWhole  = 2
	typeVector = 3

	maxCount = 1<<31 - 1
	maxRegs  = 1 << 14
	maxSlots = 1 << 12
	maxCode  = 1 << 15
	maxNest  = 64

	nan api.F = 0x7fc00000

	maxInt = int(^uint(0) >> 1)
	minInt = -maxInt - 1
)

func names() []string { return samples.Names() }

// ops are all that there are.
func ops() []int {
	var all []int
	for i := range names() {
		all = append(all, i+1)
	}
	return all
}

func field(i *api.Inst, letter byte) *int { return samples.Field(i, letter) }

func read(text string) []api.Inst { return samples.Read(text) }

func show(c api.Code) string { return samples.Show(c) }

func numberType() api.Type { return api.Type{Kind: typeNumber} }

func wholeType() api.Type { return api.Type{Kind: typeWhole} }

func vectorType(param int) api.Type { return api.Type{Kind: typeVector, Param: param} }

// usual is code over three parameters, the first and the last of one length; two registers of each type but the last.
func usual(list ...api.Inst) api.Code {
	return api.Code{
		Sign: []api.Param{{Name: "w", Kind: 1, Len: 3}, {Name: "z", Kind: 2, Len: 2}, {Name: "u", Kind: 1, Len: 3}},
		Regs: []api.Type{numberType(), numberType(), wholeType(), wholeType(), vectorType(0), vectorType(0), vectorType(1), vectorType(1), vectorType(2)},
		Slots: []api.Slot{
			{Type: numberType(), Keep: true, Bits: nan}, {Type: wholeType(), Int: maxCount}, {Type: vectorType(0), Keep: true, Bits: 0xff800000},
			{Type: vectorType(1), Bits: 0x80000000}, {Type: vectorType(2)}, {Type: wholeType(), Keep: true}, {Type: numberType()},
		},
		List: list,
	}
}

// setAll sets all registers of the usual code.
const setAll = "Number D0; Number D1; Whole D2; Whole D3; Grad D4; Grad D5; Grad D6; Grad D7; Grad D8;"

// behind is the usual code whose registers are all set, with this behind that; and how many instructions stand ahead of it.
func behind(text string) (api.Code, int) {
	return usual(append(read(setAll), read(text)...)...), 9
}

// holdCheck: Check answers this.
func holdCheck(t *testing.T, c api.Code, e api.Errno, place int) {
	t.Helper()
	if got, at := Check(c); got != e || at != place {
		t.Errorf("Check = %d, %d, not %d, %d: %s", got, at, e, place, show(c))
	}
}

// holdTaken: Check takes the usual code whose registers are set, with this behind it.
func holdTaken(t *testing.T, texts ...string) {
	t.Helper()
	for _, text := range texts {
		c, _ := behind(text)
		holdCheck(t, c, api.OK, 0)
	}
}

// holdRefused: Check refuses it at that place of the text.
func holdRefused(t *testing.T, place int, texts ...string) {
	t.Helper()
	for _, text := range texts {
		c, ahead := behind(text)
		holdCheck(t, c, errCode, ahead+place)
	}
}

// example is code of the chapter's examples.
func example(text string) api.Code {
	return api.Code{Sign: []api.Param{{Name: "w", Kind: 1, Len: 3}}, Regs: []api.Type{numberType(), vectorType(0), wholeType()}, List: read(text)}
}

// TestExamples: IR1 and IR2, the chapter's examples.
func TestExamples(t *testing.T) {
	for _, c := range []struct {
		text  string
		e     api.Errno
		place int
	}{
		{"Grad D1; Number D0 =3f000000; Mul D1 A1 B0; Out A1", api.OK, 0},
		{"Grad D1; Mul D1 A1 B0; Out A1", errCode, 1},
		{"Whole D2 N1; When A2; Number D0; End; Test D2 A0", errCode, 4},
		{"Loop N0; Grad D1; Neg D1 A1; Out A1; Next", api.OK, 0},
		{"Loop N0; Number D0; Next", errCode, 1},
		{"Loop N0", errCode, 1},
		{"End", errCode, 0},
		{"Mul D0 A0 B1", errCode, 0},
		{"Number D0; Grad D1; Mul D0 A0 B1", errCode, 2},
		{"", api.OK, 0},
	} {
		holdCheck(t, example(c.text), c.e, c.place)
	}
	c := example("")
	c.Slots = []api.Slot{{Type: vectorType(0), Keep: true}, {Type: wholeType(), Keep: true}, {Type: numberType()}}
	holdKept(t, c, 2, 4)
	holdCheck(t, c, api.OK, 0)
	holdCheck(t, api.Code{}, api.OK, 0)
}

// TestLaterChapters: IR1, the codes that the chapters behind this one give as examples are well formed.
func TestLaterChapters(t *testing.T) {
	w := []api.Param{{Name: "w", Kind: 1, Len: 3}, {Name: "u", Kind: 1, Len: 2}}
	v := vectorType(0)
	for _, c := range []api.Code{
		{Sign: w[:1], Regs: []api.Type{v, numberType(), v}, List: read("Grad D0; Number D1 =3f000000; Mul D2 A0 B1; Out A2")},
		{Sign: w[:1], Regs: []api.Type{v, v, v, v}, List: read("Grad D0; Grad D1; Add D2 A0 B1; Copy D3 A2; Out A3")},
		{Sign: w[:1], Regs: []api.Type{v, v, v}, Slots: []api.Slot{{Type: v, Keep: true}}, List: read("Grad D0; Load D1 N0; Add D2 A0 B1; Store A2 N0; Out A0")},
		{Sign: w, Regs: []api.Type{v, v, vectorType(1), numberType()}, List: read("Loop N0; Grad D0; Neg D1 A0; Out A1; Next; Loop N1; Grad D2; Out A2; Next")},
		{Sign: w, Regs: []api.Type{v, v, vectorType(1), numberType()}, List: read("Loop N0; Grad D0; Next; Sum D3 A0; Loop N0; Mul D1 A0 B3; Out A1; Next")},
	} {
		holdCheck(t, c, api.OK, 0)
	}
}
