package fuse

import (
	"slices"
	"strconv"
	"strings"
	"testing"

	"lathe/api"
	"lathe/ir"
	"lathe/samples"
)

// most is how many instructions FU3 speaks of, beside OpLoops and OpNexts.
const most = 10922

// filled is the usual code with so many instructions, of a text again and again.
func filled(ahead, text string, count int) api.Code {
	c := usual(ahead)
	piece := read(text)
	for len(c.List) < count {
		c.List = append(c.List, piece...)
	}
	c.List = c.List[:count]
	return c
}

// holdLimit: FU1 to FU3 of code, whose blocks are done or not; what Fuse answers.
func holdLimit(t *testing.T, c api.Code) api.Code {
	t.Helper()
	d := holdForm(t, c)
	for whole := range 2 {
		a, b := samples.CloneCode(c), samples.CloneCode(d)
		a.Slots[1].Int, b.Slots[1].Int = whole, whole
		holdMeaning(t, &samples.Grower{Source: 3}, a, b, 1)
	}
	return d
}

// texts are instructions that a long code may have again and again behind texts[0], with few loops or with many.
func texts() []string {
	return []string{
		"Load D4 N1; Number D0 =3f800000; Number D1; Grad D8; Param D9; Grad D12; Grad D16; Load D17 N4;",
		"Neg D8 A8",
		"Neg D8 A8; Neg D16 A16",
		"Mul D8 A9 B0; Number D0 =3f7fffff",
		"Sum D0 A8; Mul D8 A9 B0",
		"Add D8 A9 B0; Add D12 A12 B0; Add D16 A17 B0; Number D0 =40000000",
		"Neg D8 A8; Number D1; Abs D16 A16; Sum D1 A8; Sqrt D12 A12; Least D1 A16",
		"Out A8; Neg D8 A8; Store A8 N2; Load D9 N2; Store A9 N7; Sum D0 A9",
		"Number D1 =3f000000; Mul D9 A8 B1; Load D1; Add D8 A8 B1; Store A8 N2; Least D1 A9; Store A1",
	}
}

// TestLongest: FU2 and FU3, as many instructions as FU3 speaks of, and a few less; with loops, too, as long as may be.
func TestLongest(t *testing.T) {
	for _, text := range texts()[1:] {
		for _, count := range []int{most, most - 1} {
			c := filled(texts()[0], text, count)
			if !isBounded(c) {
				t.Fatalf("%s: %d", text, count)
			}
			d := holdLimit(t, c)
			c.List = apart(c)
			if e := holdLimit(t, c); !slices.Equal(d.List, e.List) {
				t.Errorf("%s: another code with loops", text)
			}
		}
	}
}

// apart is a code's instructions, each that may be looped in a loop of its own.
func apart(c api.Code) []api.Inst {
	var list []api.Inst
	for _, i := range c.List {
		if param := samples.LoopOf(c, i); param >= 0 {
			list = append(list, api.Inst{Op: 36, N: param}, i, api.Inst{Op: 37})
		} else {
			list = append(list, i)
		}
	}
	return list
}

// TestLonger: FU2 and FU4, more instructions than FU3 speaks of, up to MaxCode: well formed still, and the same in meaning.
func TestLonger(t *testing.T) {
	itself := 0
	for _, text := range texts()[1:] {
		for _, count := range []int{most + 1, 20000, maxCode - 7, maxCode - 6, maxCode - 5, maxCode} {
			c := filled(texts()[0], text, count)
			if isBounded(c) {
				t.Fatalf("%s: %d", text, count)
			}
			if d := holdLimit(t, c); ir.Equal(c, d) {
				itself++
			}
		}
	}
	if itself < 10 || itself > 38 {
		t.Errorf("%d stayed as they are", itself)
	}
}

// TestLongWithLoops: FU2 and FU4, codes that are longer than FU3 speaks of, and have loops.
func TestLongWithLoops(t *testing.T) {
	c := usual("Grad D8; Load D4 N1; Number D0 =3f000000; Number D1 =3f800000")
	for n := 0; len(c.List) < maxCode-20; n++ {
		c.List = append(c.List, read("Loop; Neg D8 A8; Out A8; Next; Number D"+strconv.Itoa(n%2)+" =3f7fffff; Loop; Next; Mul D8 A8 B"+strconv.Itoa(n%2)+"; Loop; Store A8 N2; Next")...)
	}
	holdLimit(t, c)
	c.List = slices.Repeat(read("Loop; Next"), maxCode/2)
	if d := holdLimit(t, c); len(d.List) > 0 {
		t.Errorf("%s", listed(d.List))
	}
	c.List = append(read("Grad D8"), slices.Repeat(read("Loop; Neg D8 A8; Next"), maxCode/3)...)
	if d := holdLimit(t, c); len(d.List) != maxCode/3+3 {
		t.Errorf("%d instructions", len(d.List))
	}
}

// nested is code with so many blocks in one another, and a text ahead of each, in the innermost one and behind each.
func nested(depth int, text string) api.Code {
	c := usual("Load D4 N1; Grad D8; Param D9; Number D0 =3f800000; Grad D12; Grad D16;" + text)
	piece := read(text)
	for range depth {
		c.List = append(append(c.List, api.Inst{Op: 34, A: 4}), piece...)
	}
	for range depth {
		c.List = append(append(c.List, api.Inst{Op: 35}), piece...)
	}
	return c
}

// TestDeepest: FU3, up to one block fewer than MaxNest in one another, with something loose in each place.
func TestDeepest(t *testing.T) {
	for _, text := range []string{
		"Neg D8 A8", "Neg D8 A8; Abs D12 A12; Out A8; Out A12 N1", "Sum D0 A8; Mul D8 A9 B0; Out A8; Store A8 N2", "Store A16 N4; Load D16 N4; Number D0; Out A16", "Loop; Next; Loop; Load D8 N2; Next; Loop N2; Next; Out A8", "",
	} {
		for _, depth := range []int{1, 2, maxNest - 2, maxNest - 1} {
			c := nested(depth, text)
			if !isBounded(c) {
				t.Fatalf("%d", depth)
			}
			holdLimit(t, c)
		}
	}
}

// TestDeeper: FU2 and FU4, MaxNest blocks in one another: well formed still, and the same in meaning. What stands in fewer is looped there,
// too: the program's own choice.
func TestDeeper(t *testing.T) {
	for _, text := range []string{"Neg D8 A8; Out A8", "Sum D0 A8; Mul D8 A9 B0; Store A8 N2; Neg D12 A12", "Number D0; Store A0", ""} {
		c := nested(maxNest, text)
		d := holdLimit(t, c)
		if isBounded(c) {
			t.Errorf("it is bounded")
		}
		inner := slices.IndexFunc(d.List, func(i api.Inst) bool { return i.Op == 35 })
		if at := samples.LooseAt(d); at >= 0 && (at > inner || slices.Index(d.List[at:], api.Inst{Op: 34, A: 4}) >= 0) {
			t.Errorf("what stands at %d is loose: %s", at, listed(d.List))
		}
		if strings.Contains(text, "Neg") && samples.Counts(d)[36] < 2*maxNest {
			t.Errorf("%d loops", samples.Counts(d)[36])
		}
	}
}

// TestDeepAndLong: FU2 to FU4, blocks in one another and one behind the other, up to MaxCode instructions.
func TestDeepAndLong(t *testing.T) {
	for _, depth := range []int{maxNest - 1, maxNest} {
		for _, count := range []int{most, most + 1, maxCode} {
			c := nested(depth, "Neg D8 A8; Sum D0 A8; Mul D9 A9 B0; Out A9")
			piece := slices.Clone(c.List[6:])
			for len(c.List)+len(piece) <= count {
				c.List = append(c.List, piece...)
			}
			for len(c.List) < count {
				c.List = append(c.List, read("Out A8")...)
			}
			if isBounded(c) != (depth < maxNest && count == most) {
				t.Fatalf("%d, %d", depth, count)
			}
			holdLimit(t, c)
		}
	}
}

// TestMostBlocks: FU3, as many blocks as FU3 speaks of, each with a loop, and one ahead of them.
func TestMostBlocks(t *testing.T) {
	c := filled("Load D4 N1; Grad D8;", "When A4; Neg D8 A8; End", most)
	if d := holdLimit(t, c); samples.Counts(d)[36] != 1+most/3 {
		t.Errorf("%d loops", samples.Counts(d)[36])
	}
}

// TestMost: FU2 to FU4, code with as many parameters, registers and slots as may be, of which each is worked on.
func TestMost(t *testing.T) {
	c := api.Code{}
	for i := range 64 {
		c.Sign = append(c.Sign, api.Param{Name: string([]byte{'a' + byte(i/8), 'a' + byte(i%8)}), Kind: 1, Len: 1024})
	}
	for register := range maxRegs {
		c.Regs = append(c.Regs, api.Type{Kind: 3, Param: register % 64})
	}
	c.Regs[maxRegs-1] = api.Type{Kind: 1}
	for n := range maxSlots {
		c.Slots = append(c.Slots, api.Slot{Type: api.Type{Kind: 3, Param: n % 64}, Keep: n%3 > 0, Bits: api.F(n)})
	}
	for register := range maxRegs - 64 {
		c.List = append(c.List, api.Inst{Op: api.OpLoad, D: register, N: register % maxSlots}, api.Inst{Op: api.OpOut, A: register})
	}
	long := c
	if d := holdForm(t, long); samples.Counts(d)[36] != 64 || samples.LooseAt(d) >= 0 || samples.NeighboursAt(d) >= 0 {
		t.Errorf("%s", samples.Show(d))
	}
	c.List = slices.Clone(c.List[:7000])
	for register := range 3500 {
		c.List = append(c.List, api.Inst{Op: api.OpSum, D: maxRegs - 1, A: register})
	}
	if d := hold(t, &samples.Grower{Source: 5}, c); samples.Counts(d)[36] != 64 {
		t.Errorf("%s", samples.Show(d))
	}
}

// TestPlainBesideMany: P1, each of as many instructions as may be is held against a waiting loop of each of as many parameters as may be.
func TestPlainBesideMany(t *testing.T) {
	c := api.Code{Regs: []api.Type{{Kind: 1}}}
	for i := range 64 {
		c.Sign = append(c.Sign, api.Param{Name: "p" + strconv.Itoa(i), Kind: 1, Len: 1})
		c.Regs = append(c.Regs, api.Type{Kind: 3, Param: i})
		c.List = append(c.List, api.Inst{Op: api.OpGrad, D: 1 + i}, api.Inst{Op: api.OpOut, A: 1 + i})
	}
	c.List = append(c.List, slices.Repeat(read("Number D0 =3f800000; Neg D0 A0"), (maxCode-256)/2)...)
	if d := holdForm(t, c); len(d.List) != len(c.List)+128 || samples.LooseAt(d) >= 0 {
		t.Errorf("%s", samples.Show(d))
	}
}
