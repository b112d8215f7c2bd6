package alloc

import (
	"slices"
	"strconv"
	"testing"

	"lathe/api"
	"lathe/ir"
	"lathe/samples"
)

// holdTooMuch: RA2 and rule 2, Alloc tells that error of code that is well formed, nothing beside it, and may do so.
func holdTooMuch(t *testing.T, c api.Code, want api.Errno) {
	t.Helper()
	if e, at := ir.Check(c); e != api.OK || !mayRefuse(c) {
		t.Errorf("%d at %d, it may be refused: %t", e, at, mayRefuse(c))
	}
	if d, e := Alloc(c); e != want || d.Sign != nil || d.Regs != nil || d.Slots != nil || d.List != nil {
		t.Errorf("Alloc = %d, want %d: %s", e, want, samples.Show(c))
	}
}

// holdLimit: RA2 and RA3 of code; what Alloc answers.
func holdLimit(t *testing.T, c api.Code) api.Code {
	t.Helper()
	d := holdForm(t, c)
	holdMeaning(t, &samples.Grower{Source: 3}, c, d, 1)
	return d
}

// spare is how many more slots the usual code may have.
const spare = maxSlots - 10

// TestMostSlots: RA2, as many values waiting as there may be slots, of each sort and of all together; with one more: ErrSlots.
func TestMostSlots(t *testing.T) {
	for _, count := range [][samples.Sorts]int{
		{16 + spare}, {0, 16 + spare}, {0, 0, 8 + spare}, {0, 0, 0, 8 + spare}, {0, 0, 0, 0, 8 + spare}, {16 + 1000, 16 + 1000, 8 + 1000, 8 + 1000, 8 + spare - 4000},
	} {
		c := samples.Straight(count, slices.Reverse[[]int])
		if d := holdLimit(t, c); len(d.Slots) != maxSlots {
			t.Errorf("%v: %d slots", count, len(d.Slots))
		}
		for sort := range count {
			if count[sort] > 0 {
				more := count
				more[sort]++
				holdTooMuch(t, samples.Straight(more, slices.Reverse[[]int]), errSlots)
			}
		}
	}
}

// TestSlotsAlready: RA2, code that has as many slots as may be, or one less: where one value has to wait, there is room for it or not; where
// none has to, nothing is told.
func TestSlotsAlready(t *testing.T) {
	for sort := range samples.Sorts {
		for more := range 3 {
			count := [samples.Sorts]int{}
			count[sort] = samples.MostOf(sort) + more
			c := samples.Straight(count, samples.AsTheyCame)
			for n := len(c.Slots); n < maxSlots-1; n++ {
				c.Slots = append(c.Slots, api.Slot{Type: samples.TypeOf(n % samples.Sorts), Keep: n%7 < 3})
			}
			if more > 1 {
				holdTooMuch(t, c, errSlots)
			} else if d := holdLimit(t, c); len(d.Slots) != maxSlots-1+more {
				t.Errorf("%d slots", len(d.Slots))
			}
			c.Slots = append(c.Slots, api.Slot{Type: api.Type{Kind: 1}, Keep: true})
			if more > 0 {
				holdTooMuch(t, c, errSlots)
			} else {
				holdLimit(t, c)
			}
		}
	}
}

// TestSourcesNeedNone: RA2, code that has as many slots as may be, and far too many values that hang on nothing: these are made again, so
// nothing is told.
func TestSourcesNeedNone(t *testing.T) {
	c := newCrowd()
	for n := len(c.Slots); n < maxSlots; n++ {
		c.Slots = append(c.Slots, api.Slot{Type: samples.TypeOf(n % samples.Sorts), Keep: true})
	}
	var list []int
	for range 6000 {
		list = append(list, c.Set(0, "Number =3f800000"))
	}
	c.Leave(0, list)
	holdLimit(t, c.Code)
}

// filled is code behind so many instructions that have nothing to do with it, of one register, that it has a given length.
func filled(c api.Code, length int) api.Code {
	c = samples.CloneCode(c)
	c.Regs = append(c.Regs, api.Type{Kind: 2})
	filling := api.Inst{Op: 2, D: len(c.Regs) - 1}
	c.List = slices.Concat(slices.Repeat([]api.Inst{filling}, length-len(c.List)), c.List)
	return c
}

// TestMostCode: RA2, code that becomes as long as may be; and longer: ErrSize.
func TestMostCode(t *testing.T) {
	for sort := range samples.Sorts {
		for _, more := range []int{1, 2, 100} {
			count := [samples.Sorts]int{}
			count[sort] = samples.MostOf(sort) + more
			c := samples.Straight(count, samples.AsTheyCame)
			if d := holdLimit(t, filled(c, maxCode-2*more)); len(d.List) != maxCode {
				t.Errorf("%d instructions", len(d.List))
			}
			holdTooMuch(t, filled(c, maxCode-2*more+1), errSize)
			holdTooMuch(t, filled(c, maxCode), errSize)
		}
	}
}

// TestMostLoops: RA2, a loop that has to be cut, in code that becomes as long as may be, and longer.
func TestMostLoops(t *testing.T) {
	c := newCrowd()
	c.withNumbers(2, c.Come(0, 20), 1)
	d := holdUsual(t, c.Code)
	more := len(d.List) - len(c.List)
	if more != 12 { // five wait for a while, and the loop is cut once
		t.Errorf("%d instructions more", more)
	}
	if d := holdLimit(t, filled(c.Code, maxCode-more)); len(d.List) != maxCode {
		t.Errorf("%d instructions", len(d.List))
	}
	holdTooMuch(t, filled(c.Code, maxCode-more+1), errSize)
}

// TestBothTooMany: rule 2, where there are too many slots and too many instructions, ErrSlots is told, as it is named first.
func TestBothTooMany(t *testing.T) {
	c := samples.Straight([samples.Sorts]int{5000}, samples.AsTheyCame)
	holdTooMuch(t, c, errSlots)
	holdTooMuch(t, filled(c, maxCode), errSlots)
	holdTooMuch(t, filled(samples.Straight([samples.Sorts]int{4000}, samples.AsTheyCame), maxCode), errSize)
}

// TestLongestSingle: RA2, single code of as many instructions and registers as may be, of which no more are alive at once than there may be
// registers: nothing is told, and nothing added.
func TestLongestSingle(t *testing.T) {
	for sort := range samples.Sorts {
		c := newCrowd()
		list := c.Come(sort, samples.MostOf(sort))
		for n := 0; len(c.Regs) < maxRegs-samples.MostOf(sort); n = (n + 3) % len(list) {
			list[n] = c.More(sort, list[n])
		}
		c.Leave(sort, list)
		for len(c.List) < maxCode {
			c.List = append(c.List, c.List[len(c.List)-1])
		}
		d := holdLimit(t, c.Code)
		if p := pressureOf(c.Code); p[sort] != samples.MostOf(sort) || len(d.List) != maxCode || len(d.Regs) != p[sort] {
			t.Errorf("Pressure %v, %d instructions, %d registers", p, len(d.List), len(d.Regs))
		}
	}
}

// TestLongestFew: RA2, code of as many instructions as may be that is not single, with as many registers as there may be: nothing is told,
// and nothing added, however many blocks there are.
func TestLongestFew(t *testing.T) {
	for sort := range samples.Sorts {
		c := newCrowd()
		when := c.Load(1)
		list := c.Come(sort, samples.MostOf(sort)-2)
		for n := 0; len(c.List) < maxCode-100; n++ {
			c.when(when)
			c.renew(sort, list[n%len(list)], list[n*5%len(list)])
			c.Put("End")
		}
		c.List = append(c.List, api.Inst{Op: 33, A: list[0], N: sort})
		d := holdLimit(t, filled(c.Code, maxCode))
		if len(d.List) != maxCode || len(d.Slots) != len(c.Slots) {
			t.Errorf("%d instructions, %d slots", len(d.List), len(d.Slots))
		}
	}
}

// TestManyBlocks: RA2 and P1, as many blocks as fit behind one another, and as deep as may be, in code with many values alive around them.
func TestManyBlocks(t *testing.T) {
	for _, depth := range []int{1, 7, maxNest} {
		c := newCrowd()
		when := c.Load(1)
		list := c.Come(0, 200)
		for len(c.List) < maxCode-2*maxNest-8000 {
			for range depth {
				c.when(when)
			}
			for range depth {
				c.Put("End")
			}
		}
		c.Leave(0, list)
		holdLimit(t, c.Code)
	}
}

// TestMost: RA2 and P1, as many parameters as may be, each with as many vectors as there may be registers, in code full of blocks; and with
// more, in as many registers as a code may have.
func TestMost(t *testing.T) {
	for _, vectors := range []int{keepVector, 40} {
		c := api.Code{Regs: []api.Type{{Kind: 2}}, List: read("Whole N1")}
		for p := range 64 {
			c.Sign = append(c.Sign, api.Param{Name: "p" + strconv.Itoa(p), Kind: 1, Len: 1})
			for range vectors {
				c.List = append(c.List, api.Inst{Op: 29, D: len(c.Regs)}, api.Inst{Op: 12, D: 1 + len(c.Regs), A: len(c.Regs)})
				c.Regs = append(c.Regs, api.Type{Kind: 3, Param: p}, api.Type{Kind: 3, Param: p})
			}
		}
		for range 5000 {
			c.List = append(c.List, read("When; End")...)
		}
		for register := 2; register < len(c.Regs); register += 2 {
			c.List = append(c.List, api.Inst{Op: 31, A: register})
		}
		d := holdLimit(t, c)
		if want := 64 * max(0, vectors-keepVector); len(d.Slots) != want || len(d.Regs) != 64*keepVector+1 {
			t.Errorf("%d slots, %d registers", len(d.Slots), len(d.Regs))
		}
	}
	c := api.Code{Regs: slices.Repeat([]api.Type{{Kind: 1}}, maxRegs)}
	for register := range maxRegs { // all of them are alive at once, and are made again: that is too long
		c.List = append(c.List, api.Inst{Op: 1, D: register, Bits: api.F(register)})
	}
	for register := 0; register < maxRegs; register += 3 {
		c.List = append(c.List, api.Inst{Op: 15, A: register, B: min(register+1, maxRegs-1), C: min(register+2, maxRegs-1)})
	}
	holdTooMuch(t, c, errSize)
	if p := pressureOf(c); p[0] != maxRegs {
		t.Errorf("Pressure %v", p)
	}
}
