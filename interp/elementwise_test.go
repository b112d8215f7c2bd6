package interp

import (
	"slices"
	"testing"

	"lathe/api"
	"lathe/samples"
)

// arguments is how many an elementwise instruction takes.
func arguments(op int) int {
	switch {
	case op == 15:
		return 3
	case op >= 4 && op <= 10:
		return 2
	}
	return 1
}

// patterns are some of every kind.
func patterns() []api.F {
	return append(append(samples.Edges(), samples.NaNs()...), two, three, 0xc0400000, 0x4b800000, 0x34000000, 0x41200000, 0x3dcccccd)
}

// canonical are those of them that code may have in it.
func canonical() []api.F {
	return slices.DeleteFunc(patterns(), func(a api.F) bool { return !samples.IsTold(a) })
}

// against are the patterns against each other: each pair stands at one place of the first two lists, the third has others.
func against() [3][]api.F {
	all := patterns()
	var lists [3][]api.F
	for i, a := range all {
		for j, b := range all {
			lists[0], lists[1], lists[2] = append(lists[0], a), append(lists[1], b), append(lists[2], all[(3*i+7*j+1)%len(all)])
		}
	}
	return lists
}

// inTurns has the elements of two lists by turns.
func inTurns(a, b []api.F) []api.F {
	var list []api.F
	for i := range a {
		list = append(list, a[i], b[i])
	}
	return list
}

// with is an instruction with these registers, as many as it takes.
func with(op, d int, registers ...int) api.Inst {
	i := api.Inst{Op: op, D: d}
	for k, place := range []*int{&i.A, &i.B, &i.C}[:arguments(op)] {
		*place = registers[k]
	}
	return i
}

// elementwise is code over a complex parameter: the registers 0 to 2 hold vectors (both parts of the gradient, one of the parameter), 3 to 5
// the numbers; then comes the instruction, whose D is 6, a vector, or 7, a number.
func elementwise(i api.Inst, elements int, numbers [3]api.F) api.Code {
	v, n := vectorType(0), numberType()
	c := api.Code{Sign: []api.Param{{Name: "z", Kind: 2, Len: elements}}, Regs: []api.Type{v, v, v, n, n, n, v, n}}
	c.Slots = []api.Slot{{Type: v, Keep: true}, {Type: n, Keep: true}}
	c.List = read("Grad D0 N0; Grad D1 N1; Param D2 N1")
	for k, a := range numbers {
		c.List = append(c.List, api.Inst{Op: 1, D: 3 + k, Bits: a})
	}
	c.List = append(c.List, i)
	if i.D == 6 {
		c.List = append(c.List, read("Store A6 N0; Out A6 N1")...)
	} else {
		c.List = append(c.List, read("Store A7 N1")...)
	}
	return c
}

// holdElementwise: the instruction, of vectors and numbers as its fields say, makes what it should.
func holdElementwise(t *testing.T, i api.Inst, lists [3][]api.F, numbers [3]api.F) {
	t.Helper()
	elements := len(lists[0])
	r := begin(t, elementwise(i, elements, numbers))
	others := slices.Repeat([]api.F{0x7f812345}, elements)
	u := stepped(t, r, [][]api.F{inTurns(lists[0], lists[1])}, [][]api.F{inTurns(others, lists[2])})
	read := func(register, element int) api.F {
		if register < 3 {
			return lists[register][element]
		}
		return numbers[register-3]
	}
	var want []api.F
	for element := range elements {
		want = append(want, wantElement(i.Op, read(i.A, element), read(i.B, element), read(i.C, element)))
	}
	name := samples.Names()[i.Op-1]
	if i.D == 7 {
		if a, _, _ := r.Slot(1); !slices.Equal(a, want[:1]) {
			t.Errorf("%s of %08x: %08x, want %08x", name, numbers, a, want[0])
		}
		return
	}
	held, _, _ := r.Slot(0)
	for element, a := range want {
		if held[element] != a || u[0][2*element+1] != a || u[0][2*element] != 0 {
			t.Fatalf("%s %v of %08x %08x %08x, %08x: %08x, %08x, want %08x", name, i, lists[0][element], lists[1][element], lists[2][element], numbers, held[element], u[0][2*element:2*element+2], a)
		}
	}
}

// TestElementwiseVectors: IN2, each elementwise instruction of vectors, of every kind of pattern.
func TestElementwiseVectors(t *testing.T) {
	lists := against()
	for op := 3; op <= 15; op++ {
		for _, order := range [][]int{{0, 1, 2}, {1, 0, 2}, {2, 1, 0}, {1, 2, 0}, {0, 0, 0}, {1, 1, 2}, {0, 2, 2}} {
			holdElementwise(t, with(op, 6, order...), lists, [3]api.F{})
		}
	}
}

// TestElementwiseNumbers: IN2, each elementwise instruction of numbers, of every kind that code may have.
func TestElementwiseNumbers(t *testing.T) {
	all := canonical()
	short := [3][]api.F{{one}, {two}, {three}}
	for op := 3; op <= 15; op++ {
		for i, a := range all {
			for j, b := range all {
				numbers := [3]api.F{a, b, all[(3*i+7*j+1)%len(all)]}
				holdElementwise(t, with(op, 7, 3, 4, 5), short, numbers)
				holdElementwise(t, with(op, 7, 4, 3, 3), short, numbers)
				if arguments(op) == 1 {
					break
				}
			}
		}
	}
}

// TestElementwiseMixed: IN2, a number counts as each element, whichever of those that are read it is; and all of them.
func TestElementwiseMixed(t *testing.T) {
	all := canonical()
	lists := [3][]api.F{patterns(), slices.Clone(patterns()), slices.Clone(patterns())}
	slices.Reverse(lists[1])
	slices.Sort(lists[2])
	for op := 3; op <= 15; op++ {
		for numbered := range 1 << arguments(op) {
			var registers []int
			for k := range 3 {
				registers = append(registers, k+3*(numbered>>k&1))
			}
			for i := range all {
				numbers := [3]api.F{all[i], all[(i*5+3)%len(all)], all[(i*11+8)%len(all)]}
				holdElementwise(t, with(op, 6, registers...), lists, numbers)
				short := [3][]api.F{lists[0][i : i+1], lists[1][i : i+1], lists[2][i : i+1]}
				holdElementwise(t, with(op, 6, registers...), short, numbers)
			}
		}
	}
}

// TestElementwiseInPlace: IN2, D may be among those that are read.
func TestElementwiseInPlace(t *testing.T) {
	holdVector(t, "Grad D8; Add D8 A8 B8", two, four, six)
	holdVector(t, "Grad D8; Number D0 =3f800000; Sub D8 A0 B8", 0, 0xbf800000, 0xc0000000)
	holdVector(t, "Grad D8; Grad D9; Neg D8 A8; Select D8 A9 B9 C8; Add D8 A8 B9", two, four, six)
	holdNumber(t, "Number D0 =40400000; Mul D0 A0 B0; Sub D0 A0 B0", 0)
	holdNumber(t, "Number D0 =40400000; Number D1; Select D0 A1 B1 C0", three)
	holdVector(t, "Grad D9; Copy D8 A9; Neg D9 A9", one, two, three)
	holdVector(t, "Grad D8; Copy D9 A8; Neg D9 A9", one, two, three)
	holdVector(t, "Number D0 =40400000; Copy D8 A0; Number D0", three, three, three)
}

// TestCopy: IN2, of each type, and of a number as a vector.
func TestCopy(t *testing.T) {
	holdNumber(t, "Number D1 =80000000; Copy D0 A1", minus)
	holdNumber(t, "Number D1 =7fc00000; Copy D0 A1; Number D1", nan)
	holdWhole(t, "Whole D5 N7; Copy D4 A5; Whole D5 N1", 7)
	holdWhole(t, "Whole D4 N7; Copy D4 A4", 7)
	holdWhole(t, "Whole D5 N2147483647; Copy D4 A5", maxCount)
	holdVector(t, "Param D9; Copy D8 A9; Grad D9", 0xbf800000, inf, 0)
	holdVector(t, "Number D2 =7fc00000; Copy D8 A2", nan, nan, nan)
	holdVector(t, "Number D2 =ff800000; Copy D8 A2", 0xff800000, 0xff800000, 0xff800000)
	holdUpdates(t, "Number D2 =40400000; Copy D12 A2; Out A12 N1; Copy D16 A2; Out A16", []api.F{0, 0, 0}, []api.F{0, three, 0, three}, []api.F{three})
	holdUpdates(t, "Grad D12 N1; Copy D13 A12; Out A13; Grad D16; Copy D17 A16; Out A17", []api.F{0, 0, 0}, []api.F{half, 0, minus, 0}, []api.F{six})
}

// TestElementwisePlain: IN2, a few by hand.
func TestElementwisePlain(t *testing.T) {
	holdVector(t, "Grad D9; Param D10; Add D8 A9 B10", 0, inf, three)
	holdVector(t, "Grad D9; Param D10; Sub D8 A9 B10", two, 0xff800000, three)
	holdVector(t, "Grad D9; Param D10; Sub D8 A10 B9", 0xc0000000, inf, 0xc0400000)
	holdVector(t, "Grad D9; Param D10; Mul D8 A9 B10", 0xbf800000, inf, 0)
	holdVector(t, "Grad D9; Param D10; Div D8 A9 B10", 0xbf800000, 0, inf)
	holdVector(t, "Grad D9; Param D10; Div D8 A10 B9", 0xbf800000, inf, 0)
	holdVector(t, "Grad D9; Param D10; Min D8 A9 B10", 0xbf800000, two, 0)
	holdVector(t, "Grad D9; Param D10; Max D8 A9 B10", one, inf, three)
	holdVector(t, "Grad D9; Param D10; Less D8 A9 B10", 0, one, 0)
	holdVector(t, "Grad D9; Param D10; Less D8 A10 B9", one, 0, one)
	holdVector(t, "Param D9; Sqrt D8 A9", nan, inf, 0)
	holdVector(t, "Param D9; Neg D8 A9", one, 0xff800000, minus)
	holdVector(t, "Param D9; Abs D8 A9", one, inf, 0)
	holdVector(t, "Param D9; Finite D8 A9", one, 0, one)
	holdVector(t, "Param D9; Grad D10; Number D0 =40800000; Select D8 A9 B10 C0", one, two, four)
	holdVector(t, "Param D9; Grad D10; Number D0 =40800000; Select D8 A9 B0 C10", four, four, three)
	holdVector(t, "Grad D10; Number D0 =7fc00000; Number D1 =40a00000; Select D8 A0 B1 C10", one, two, three)
	holdVector(t, "Number D0 =40000000; Number D1 =3f800000; Add D8 A0 B1", three, three, three)
	holdVector(t, "Number D0 =40800000; Sqrt D8 A0", two, two, two)
	holdNumber(t, "Number D1 =40800000; Sqrt D0 A1", two)
	holdNumber(t, "Number D1 =40800000; Number D2 =40000000; Div D0 A1 B2", two)
	holdNumber(t, "Number D1 =40800000; Number D2 =40000000; Div D0 A2 B1", half)
}
