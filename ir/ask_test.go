package ir

import (
	"slices"
	"testing"

	"lathe/api"
)

// holdKept: Kept answers this.
func holdKept(t *testing.T, c api.Code, slots, numbers int) {
	t.Helper()
	if a, b := Kept(c); a != slots || b != numbers {
		t.Errorf("Kept = %d, %d, not %d, %d: %s", a, b, slots, numbers, show(c))
	}
}

// holdInst: Reads, Sets and Elementwise answer what the chapter's words say.
func holdInst(t *testing.T, i api.Inst) {
	t.Helper()
	if got := Reads(i); !slices.Equal(got, wantReads(i)) {
		t.Errorf("Reads(%v) = %v", i, got)
	}
	if got := Sets(i); got != wantSets(i) {
		t.Errorf("Sets(%v) = %t", i, got)
	}
	if got := Elementwise(i.Op); got != (i.Op >= 3 && i.Op <= 15) {
		t.Errorf("Elementwise(%d) = %t", i.Op, got)
	}
}

// TestReads: IR2, of every row the registers that it reads, in their order.
func TestReads(t *testing.T) {
	want := map[string][]int{
		"Number": nil, "Whole": nil, "Copy": {11}, "Add": {11, 12}, "Sub": {11, 12}, "Mul": {11, 12}, "Div": {11, 12}, "Min": {11, 12}, "Max": {11, 12},
		"Less": {11, 12}, "Sqrt": {11}, "Neg": {11}, "Abs": {11}, "Finite": {11}, "Select": {11, 12, 13}, "Power": {11, 12}, "From": {11}, "Test": {11},
		"Sum": {11}, "Least": {11}, "Inc": {11}, "Less2": {11, 12}, "Same": {11, 12}, "And": {11, 12}, "Not": {11}, "Choose": {11, 12, 13}, "Minus": {11, 12},
		"Over": {11, 12}, "Grad": nil, "Param": nil, "Out": {11}, "Load": nil, "Store": {11}, "When": {11}, "End": nil, "Loop": nil, "Next": nil,
	}
	for at, name := range names() {
		got := Reads(api.Inst{Op: at + 1, D: 10, A: 11, B: 12, C: 13, N: 14, Bits: 15})
		if wanted, ok := want[name]; !ok || !slices.Equal(got, wanted) {
			t.Errorf("Reads of %s: %v", name, got)
		}
		all := Reads(api.Inst{Op: at + 1, D: -1, A: minInt, B: maxInt, C: -7})
		if wanted := []int{minInt, maxInt, -7}[:len(got)]; !slices.Equal(all, wanted) {
			t.Errorf("Reads of %s of registers that can't be: %v", name, all)
		}
		twice := Reads(api.Inst{Op: at + 1, D: 4, A: 4, B: 4, C: 4})
		if !slices.Equal(twice, []int{4, 4, 4}[:len(got)]) {
			t.Errorf("Reads of %s of one register: %v", name, twice)
		}
	}
}

// TestSets: IR2, of every row whether it sets D.
func TestSets(t *testing.T) {
	not := []string{"Out", "Store", "When", "End", "Loop", "Next"}
	for at, name := range names() {
		for _, i := range []api.Inst{{Op: at + 1}, {Op: at + 1, D: 5, A: 6, B: 7, C: 8, N: 9, Bits: 1}, {Op: at + 1, D: -5, N: maxInt}} {
			if Sets(i) == slices.Contains(not, name) {
				t.Errorf("Sets of %s: %t", name, Sets(i))
			}
		}
	}
}

// TestElementwise: IR2, the thirteen from OpCopy to OpSelect.
func TestElementwise(t *testing.T) {
	are := []string{"Copy", "Add", "Sub", "Mul", "Div", "Min", "Max", "Less", "Sqrt", "Neg", "Abs", "Finite", "Select"}
	for at, name := range names() {
		if Elementwise(at+1) != slices.Contains(are, name) {
			t.Errorf("Elementwise of %s: %t", name, Elementwise(at+1))
		}
	}
}

// none are Ops that are none.
func none() []int {
	list := []int{minInt, minInt + 3, -1 << 32, -256, 256 + 3, 1<<16 + 3, 1 << 31, 1<<32 + 3, maxInt - 3, maxInt}
	for op := -100; op <= 0; op++ {
		list = append(list, op)
	}
	for op := 38; op <= 200; op++ {
		list = append(list, op)
	}
	return list
}

// TestNoOp: IR1 and IR2, an Op that is none reads and sets nothing, and is a fault.
func TestNoOp(t *testing.T) {
	for _, op := range none() {
		for _, i := range []api.Inst{{Op: op}, {Op: op, D: 4, A: 5, B: 6, C: 7, N: 1, Bits: 1}} {
			if got := Reads(i); len(got) != 0 || Sets(i) || Elementwise(op) {
				t.Errorf("of the Op %d: %v, %t, %t", op, got, Sets(i), Elementwise(op))
			}
			c, at := behind("")
			c.List = append(c.List, i)
			holdCheck(t, c, errCode, at)
			holdCheck(t, usual(i), errCode, 0)
		}
	}
}

// TestEqual: IR2, a difference in any field of any part, at any place, and in how many there are.
func TestEqual(t *testing.T) {
	c, _ := behind("Loop N0; Neg D4 A4; Next; Out A4")
	for _, change := range []func(*api.Code){
		func(c *api.Code) { c.Sign[0].Name = "v" }, func(c *api.Code) { c.Sign[2].Name = "" }, func(c *api.Code) { c.Sign[1].Kind = 1 },
		func(c *api.Code) { c.Sign[2].Len = 4 }, func(c *api.Code) { c.Sign = c.Sign[:2] }, func(c *api.Code) { c.Sign = nil },
		func(c *api.Code) { c.Sign = append(c.Sign, api.Param{}) }, func(c *api.Code) { c.Sign[0], c.Sign[2] = c.Sign[2], c.Sign[0] },
		func(c *api.Code) { c.Regs[0].Kind = 2 }, func(c *api.Code) { c.Regs[8].Param = 1 }, func(c *api.Code) { c.Regs[0].Param = 1 },
		func(c *api.Code) { c.Regs = c.Regs[:8] }, func(c *api.Code) { c.Regs = nil }, func(c *api.Code) { c.Regs = append(c.Regs, api.Type{}) },
		func(c *api.Code) { c.Slots[0].Type.Kind = 2 }, func(c *api.Code) { c.Slots[3].Type.Param = 0 }, func(c *api.Code) { c.Slots[6].Keep = true },
		func(c *api.Code) { c.Slots[0].Bits = 0xffc00000 }, func(c *api.Code) { c.Slots[4].Bits = 0x80000000 }, func(c *api.Code) { c.Slots[1].Int = 1 },
		func(c *api.Code) { c.Slots = c.Slots[:6] }, func(c *api.Code) { c.Slots = nil }, func(c *api.Code) { c.Slots = append(c.Slots, api.Slot{}) },
		func(c *api.Code) { c.List[0].Op = 2 }, func(c *api.Code) { c.List[10].D = 5 }, func(c *api.Code) { c.List[10].A = 5 },
		func(c *api.Code) { c.List[12].B = 1 }, func(c *api.Code) { c.List[12].C = -1 }, func(c *api.Code) { c.List[9].N = 1 },
		func(c *api.Code) { c.List[0].Bits = 0x80000000 }, func(c *api.Code) { c.List[11].Bits = 1 }, func(c *api.Code) { c.List = c.List[:12] },
		func(c *api.Code) { c.List = nil }, func(c *api.Code) { c.List = append(c.List, api.Inst{}) }, func(c *api.Code) { slices.Reverse(c.List) },
	} {
		other := copyOf(c)
		if !Equal(c, other) || !Equal(other, c) || !Equal(c, c) {
			t.Errorf("a copy is not Equal")
		}
		change(&other)
		if Equal(c, other) || Equal(other, c) || !Equal(other, other) {
			t.Errorf("Equal of %s and %s", show(c), show(other))
		}
	}
}

// TestEqualNothing: IR2, nil and the empty list are the same; codes that are not well formed are asked likewise.
func TestEqualNothing(t *testing.T) {
	empty := api.Code{Sign: []api.Param{}, Regs: []api.Type{}, Slots: []api.Slot{}, List: []api.Inst{}}
	if !Equal(empty, api.Code{}) || !Equal(api.Code{}, empty) || !Equal(empty, empty) || !Equal(api.Code{}, api.Code{}) {
		t.Error("the empty code is not Equal to itself")
	}
	holdCheck(t, empty, api.OK, 0)
	holdKept(t, empty, 0, 0)
	odd := usual(api.Inst{Op: -1, D: maxInt, N: minInt, Bits: 0xffffffff})
	odd.Regs[0] = api.Type{Kind: -7, Param: 99}
	odd.Sign[0] = api.Param{Len: -1}
	other := copyOf(odd)
	if !Equal(odd, other) {
		t.Error("a code that is not well formed is not Equal to its copy")
	}
	other.List[0].Bits = 0xfffffffe
	if Equal(odd, other) {
		t.Error("Equal of two NaNs")
	}
}

// TestKept: IR2, slots of each type with Keep and without; of a complex parameter as many as it has elements.
func TestKept(t *testing.T) {
	holdKept(t, usual(), 3, 1+3+1)
	c := usual()
	for i := range c.Slots {
		c.Slots[i].Keep = true
	}
	holdKept(t, c, 7, 1+1+3+2+3+1+1)
	for i := range c.Slots {
		c.Slots[i].Keep = false
	}
	holdKept(t, c, 0, 0)
	for i, numbers := range []int{1, 1, 3, 2, 3, 1, 1} {
		c.Slots[i].Keep = true
		holdKept(t, c, 1, numbers)
		c.Slots[i].Keep = false
	}
	holdKept(t, api.Code{}, 0, 0)
}

// TestKeptOfWhatMayNotBe: IR2, a parameter that is not there has no elements, a type that is none holds nothing; Bits, Int and Param
// of a number are not asked.
func TestKeptOfWhatMayNotBe(t *testing.T) {
	for _, param := range []int{-1, 3, 4, minInt, maxInt, 1 << 32, -1 << 32} {
		c := usual()
		c.Slots = []api.Slot{{Type: vectorType(param), Keep: true}, {Type: vectorType(1), Keep: true}, {Type: vectorType(param)}}
		holdKept(t, c, 2, 2)
		c.Sign = nil
		holdKept(t, c, 2, 0)
		c.Slots = []api.Slot{{Type: api.Type{Kind: typeNumber, Param: param}, Keep: true, Int: -9, Bits: 0xffffffff}, {Type: api.Type{Kind: typeWhole, Param: param}, Keep: true, Int: -9, Bits: 7}}
		holdKept(t, c, 2, 2)
	}
	for _, kind := range []int{0, -1, 4, 5, 256 + 1, 1<<32 + 1, minInt, maxInt} {
		c := usual()
		c.Slots = []api.Slot{{Type: api.Type{Kind: kind}, Keep: true}, {Type: api.Type{Kind: kind}}}
		holdKept(t, c, 1, 0)
	}
	many := usual()
	many.Sign[0].Len = 4096
	many.Slots = slices.Repeat([]api.Slot{{Type: vectorType(0), Keep: true}, {Type: wholeType()}}, 3*maxSlots)
	holdKept(t, many, 3*maxSlots, 3*maxSlots*4096)
}
