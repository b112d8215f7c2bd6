package verify

import (
	"testing"

	"lathe/api"
	"lathe/samples"
)

// The document's numbers once more, so that a change of package api is seen.
const (
	errArg   api.Errno = 1
	errLong  api.Errno = 2
	errParam api.Errno = 100
	errTwice api.Errno = 101
	errTotal api.Errno = 102
	errCode  api.Errno = 160
	errSlots api.Errno = 180
	errSize  api.Errno = 181
	errCost  api.Errno = 260
	errRoom  api.Errno = 261

	mostRoom = 1 << 24
	mostCost = 1 << 32
	maxLen   = 1 << 12
	maxRegs  = 1 << 14
	maxSlots = 1 << 12
	maxCode  = 1 << 15
	maxNest  = 64
	maxCount = 1<<31 - 1

	minInt = -1 << 63
	maxInt = 1<<63 - 1
)

// usual is the usual code of the tests: its registers 0 to 3 are numbers, 4 to 7 whole numbers, 8 to 11 vectors of w, which has three
// elements, 12 to 15 of z, which is complex and has two, 16 and 17 of u, which has one. The slots 0 to 4 are kept, 5 to 9 are not: a
// number, a whole number, vectors of w, z, u.
func usual(text string) api.Code { return samples.Usual(text) }

// usualRoom is the room of the usual code.
const usualRoom = 4 + 4 + 4*3 + 4*2 + 2*1 + 2*(1+1+3+2+1)

func read(text string) []api.Inst { return samples.Read(text) }

// setting sets all registers of the usual code: its instructions, and what they cost.
const (
	setting = `Load D0; Load D1; Load D2; Load D3; Load D4 N1; Load D5 N1; Load D6 N1; Load D7 N1; Load D8 N2; Load D9 N2; Load D10 N2; Load D11 N2;
		Load D12 N3; Load D13 N3; Load D14 N3; Load D15 N3; Load D16 N4; Load D17 N4;`
	settings    = 18
	settingCost = 4 + 4 + 4*3 + 4*2 + 2*1
)

// behind is the usual code with such instructions behind those that set all registers.
func behind(text string) api.Code { return usual(setting + text) }

// holdTaken: VE1, all that is told of code that is well formed, but for what one instruction costs.
func holdTaken(t *testing.T, c api.Code, cost, room int, e api.Errno) {
	t.Helper()
	if got, f := Cost(c); got != cost || f != api.OK {
		t.Errorf("Cost = %d, %d, want %d: %s", got, f, cost, samples.Show(c))
	}
	if got, f := Room(c); got != room || f != api.OK {
		t.Errorf("Room = %d, %d, want %d: %s", got, f, room, samples.Show(c))
	}
	if f := Check(c); f != e {
		t.Errorf("Check = %d, want %d: %s", f, e, samples.Show(c))
	}
}

// holdWeigh: VE1, what is told of a place.
func holdWeigh(t *testing.T, c api.Code, place, cost int, e api.Errno) {
	t.Helper()
	if got, f := Weigh(c, place); got != cost || f != e {
		t.Errorf("Weigh(%d) = %d, %d, want %d, %d: %s", place, got, f, cost, e, samples.Show(c))
	}
}

// holdNoPlace: VE1, there are no instructions beyond the first and the last one.
func holdNoPlace(t *testing.T, c api.Code, e api.Errno) {
	t.Helper()
	for _, place := range []int{-1, -2, -maxCode, -1 << 32, minInt, minInt + 1, len(c.List), len(c.List) + 1, maxCode, 1 << 31, 1 << 32, maxInt - 1, maxInt} {
		holdWeigh(t, c, place, 0, e)
	}
}

// holdRefused: VE1, VE2 and rule 2, each call tells that error, and nothing beside it.
func holdRefused(t *testing.T, c api.Code, e api.Errno) {
	t.Helper()
	if cost, f := Cost(c); cost != 0 || f != e {
		t.Errorf("Cost = %d, %d, want %d: %s", cost, f, e, samples.Show(c))
	}
	if room, f := Room(c); room != 0 || f != e {
		t.Errorf("Room = %d, %d, want %d: %s", room, f, e, samples.Show(c))
	}
	if f := Check(c); f != e {
		t.Errorf("Check = %d, want %d: %s", f, e, samples.Show(c))
	}
	holdNoPlace(t, c, e)
	for _, place := range []int{0, len(c.List) / 2, len(c.List) - 1} {
		holdWeigh(t, c, place, 0, e)
	}
}

// TestExamples: VE1 and VE2, those of the chapter.
func TestExamples(t *testing.T) {
	c := api.Code{Sign: []api.Param{{Name: "w", Kind: 1, Len: 3}}, Regs: []api.Type{{Kind: 3}, {Kind: 1}}, List: read("Grad D0; Sum D1 A0; Mul D0 A0 B1; Out A0")}
	holdTaken(t, c, 12, 4, api.OK)
	for place := range 4 {
		holdWeigh(t, c, place, 3, api.OK)
	}
	c.Regs = append(c.Regs, api.Type{Kind: 2})
	c.List = append(c.List, read("Whole D2 N3; Power D1 A1 B2")...)
	holdTaken(t, c, 12+1+62, 5, api.OK)
	holdWeigh(t, c, 5, 62, api.OK)
	great := api.Code{Sign: []api.Param{{Name: "w", Kind: 1, Len: 4096}}}
	for range 5000 {
		great.Regs = append(great.Regs, api.Type{Kind: 3})
	}
	holdTaken(t, great, 0, 5000*4096, errRoom)
}

// TestNothing: VE1 and VE2, the code without anything, and codes with one part alone.
func TestNothing(t *testing.T) {
	for _, c := range []api.Code{{}, {Sign: []api.Param{}, Regs: []api.Type{}, Slots: []api.Slot{}, List: []api.Inst{}}, {Sign: usual("").Sign}} {
		holdTaken(t, c, 0, 0, api.OK)
		holdNoPlace(t, c, errArg)
		holdWeigh(t, c, 0, 0, errArg)
	}
	c := usual("")
	holdTaken(t, c, 0, usualRoom, api.OK)
	holdWeigh(t, c, 0, 0, errArg)
	holdTaken(t, api.Code{Sign: c.Sign, Regs: c.Regs}, 0, 4+4+4*3+4*2+2*1, api.OK)
	holdTaken(t, api.Code{Sign: c.Sign, Slots: c.Slots}, 0, 2*(1+1+3+2+1), api.OK)
	holdTaken(t, api.Code{Sign: c.Sign, List: read("Loop N2; Next")}, 2, 0, api.OK)
}
