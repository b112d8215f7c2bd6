package vm

import (
	"slices"
	"testing"

	"lathe/api"
	"lathe/samples"
	"lathe/vector"
)

// arguments is how many an elementwise instruction takes.
func arguments(op int) int {
	switch {
	case op == 15:
		return 3
	case op >= 4 && op <= 10:
		return 2
	}
	return 1
}

// patterns are some of every kind.
func patterns() []api.F {
	return append(append(samples.Edges(), samples.NaNs()...), two, three, 0xc0400000, 0x4b800000, 0x34000000, 0x41200000, 0x3dcccccd)
}

// canonical are those of them that code may have in it.
func canonical() []api.F {
	return slices.DeleteFunc(patterns(), func(a api.F) bool { return !samples.IsTold(a) })
}

// against are the patterns against each other: each pair stands at one place of the first two lists, the third has others.
func against() [3][]api.F {
	all := patterns()
	var lists [3][]api.F
	for i, a := range all {
		for j, b := range all {
			lists[0], lists[1], lists[2] = append(lists[0], a), append(lists[1], b), append(lists[2], all[(3*i+7*j+1)%len(all)])
		}
	}
	return lists
}

// inTurns has the elements of two lists by turns.
func inTurns(a, b []api.F) []api.F {
	var list []api.F
	for i := range a {
		list = append(list, a[i], b[i])
	}
	return list
}

// with is an instruction with these registers, as many as it takes.
func with(op, d int, registers ...int) api.Inst {
	i := api.Inst{Op: op, D: d}
	for k, place := range []*int{&i.A, &i.B, &i.C}[:arguments(op)] {
		*place = registers[k]
	}
	return i
}

// looped is the instructions with marks of a loop of the parameter 0 about those from a place on.
func looped(list []api.Inst, from int) []api.Inst {
	list = slices.Insert(slices.Clone(list), from, api.Inst{Op: api.OpLoop})
	return append(list, api.Inst{Op: api.OpNext})
}

// elementwise is code over a complex parameter: the registers 0 to 2 hold vectors (both parts of the gradient, one of the parameter), 3 to 5
// the numbers of slots; then comes the instruction, whose D is 6, a vector, or 7, a number. What it makes is kept.
func elementwise(i api.Inst, elements int) api.Code {
	v, n := vectorType(0), numberType()
	c := api.Code{Sign: []api.Param{{Name: "z", Kind: 2, Len: elements}}, Regs: []api.Type{v, v, v, n, n, n, v, n}}
	c.Slots = []api.Slot{{Type: n, Keep: true}, {Type: n, Keep: true}, {Type: n, Keep: true}, {Type: n, Keep: true}, {Type: v, Keep: true}}
	c.List = read("Load D3; Load D4 N1; Load D5 N2; Grad D0; Grad D1 N1; Param D2 N1")
	c.List = append(c.List, i)
	if i.D == 6 {
		c.List = append(c.List, read("Store A6 N4; Out A6 N1")...)
	} else {
		c.List = append(c.List, read("Store A7 N3")...)
	}
	return c
}

// holdElementwise: VM2, the instruction, of vectors and numbers as its fields say, makes what chapter 5 says: of vectors in a loop and in
// none, just what the interpreter does.
func holdElementwise(t *testing.T, i api.Inst, lists [3][]api.F, numbers [3]api.F) {
	t.Helper()
	var args [][]api.F
	for _, register := range []int{i.A, i.B, i.C}[:arguments(i.Op)] {
		if register < 3 {
			args = append(args, lists[register])
		} else {
			args = append(args, numbers[register-3:register-2])
		}
	}
	want, _ := vector.Apply(i.Op, args...)
	elements := len(lists[0])
	if len(want) < elements {
		want = slices.Repeat(want, elements)
	}
	c := elementwise(i, elements)
	in := looped(c.List, 3)
	others := slices.Repeat([]api.F{0x7f812345}, elements)
	grads, params := [][]api.F{inTurns(lists[0], lists[1])}, [][]api.F{inTurns(others, lists[2])}
	for n, list := range [][]api.Inst{c.List, in} {
		c.List = list
		for k, a := range numbers {
			c.Slots[k].Bits = a
		}
		x := twinOf(t, c)
		u := x.step(t, grads, params)
		held := x.m.State()[4:]
		for element, a := range want {
			if held[element] != uint32(a) || u[0][2*element+1] != a || u[0][2*element] != 0 {
				t.Fatalf("%s, %d: %08x, %08x, want %08x of %08x %08x %08x, %08x", samples.ShowInst(i), n, held[element], u[0][2*element:2*element+2], a, lists[0][element], lists[1][element], lists[2][element], numbers)
			}
		}
	}
}

// TestElementwiseVectors: VM2, each elementwise instruction of vectors, of every kind of pattern.
func TestElementwiseVectors(t *testing.T) {
	lists := against()
	for op := 3; op <= 15; op++ {
		for _, order := range [][]int{{0, 1, 2}, {1, 0, 2}, {2, 1, 0}, {1, 2, 0}, {0, 0, 0}, {1, 1, 2}, {0, 2, 2}} {
			holdElementwise(t, with(op, 6, order...), lists, [3]api.F{})
		}
	}
}

// TestElementwiseMixed: VM2, a number counts as each element, whichever of those that are read it is; and all of them. Of a parameter of
// length 1 too.
func TestElementwiseMixed(t *testing.T) {
	all := canonical()
	lists := [3][]api.F{patterns(), slices.Clone(patterns()), slices.Clone(patterns())}
	slices.Reverse(lists[1])
	slices.Sort(lists[2])
	for op := 3; op <= 15; op++ {
		for numbered := range 1 << arguments(op) {
			var registers []int
			for k := range 3 {
				registers = append(registers, k+3*(numbered>>k&1))
			}
			for i := range all {
				numbers := [3]api.F{all[i], all[(i*5+3)%len(all)], all[(i*11+8)%len(all)]}
				holdElementwise(t, with(op, 6, registers...), lists, numbers)
				short := [3][]api.F{lists[0][i : i+1], lists[1][i : i+1], lists[2][i : i+1]}
				holdElementwise(t, with(op, 6, registers...), short, numbers)
			}
		}
	}
}

// TestElementwiseNumbers: VM2 and VM3, each elementwise instruction of numbers, of every pattern that can be set, each against each.
func TestElementwiseNumbers(t *testing.T) {
	all := patterns()
	for op := 3; op <= 15; op++ {
		for _, order := range [][]int{{3, 4, 5}, {4, 3, 3}} {
			i := with(op, 7, order...)
			m := begin(t, elementwise(i, 1))
			for j, a := range all {
				for k, b := range all {
					numbers := []api.F{a, b, all[(3*j+7*k+1)%len(all)]}
					if e := m.Set(words(numbers[0], numbers[1], numbers[2], five, five)); e != api.OK {
						t.Fatalf("Set = %d", e)
					}
					u := stepped(t, m, [][]api.F{{0, 0}}, [][]api.F{{0, 0}})
					var args [][]api.F
					for _, register := range order[:arguments(op)] {
						args = append(args, numbers[register-3:register-2])
					}
					want, _ := vector.Apply(op, args...)
					if got := m.State(); got[3] != uint32(want[0]) || got[4] != uint32(five) || !same(u, [][]api.F{{0, 0}}) {
						t.Fatalf("%s of %08x: %08x, want %08x", samples.ShowInst(i), numbers, got, want)
					}
					if arguments(op) == 1 {
						break
					}
				}
			}
		}
	}
}

// TestElementwiseInPlace: VM2, D may be among those that are read.
func TestElementwiseInPlace(t *testing.T) {
	holdVector(t, "Grad D8; Add D8 A8 B8", two, four, six)
	holdVector(t, "Grad D8; Number D0 =3f800000; Sub D8 A0 B8", 0, 0xbf800000, 0xc0000000)
	holdVector(t, "Grad D8; Grad D9; Neg D8 A8; Select D8 A9 B9 C8; Add D8 A8 B9", two, four, six)
	holdVector(t, "Loop; Grad D8; Add D8 A8 B8; Next", two, four, six)
	holdVector(t, "Grad D8; Number D0 =3f800000; Loop; Sub D8 A0 B8; Next", 0, 0xbf800000, 0xc0000000)
	holdNumber(t, "Number D0 =40400000; Mul D0 A0 B0; Sub D0 A0 B0", 0)
	holdNumber(t, "Number D0 =40400000; Number D1; Select D0 A1 B1 C0", three)
	holdVector(t, "Grad D9; Copy D8 A9; Neg D9 A9", one, two, three)
	holdVector(t, "Loop; Grad D9; Copy D8 A9; Neg D9 A9; Next", one, two, three)
	holdVector(t, "Number D0 =40400000; Copy D8 A0; Number D0", three, three, three)
}

// TestCopy: VM2, of each type, and of a number as a vector.
func TestCopy(t *testing.T) {
	holdNumber(t, "Number D1 =80000000; Copy D0 A1", minus)
	holdNumber(t, "Number D1 =7fc00000; Copy D0 A1; Number D1", nan)
	holdWhole(t, "Whole D5 N7; Copy D4 A5; Whole D5 N1", 7)
	holdWhole(t, "Whole D4 N7; Copy D4 A4", 7)
	holdWhole(t, "Whole D5 N2147483647; Copy D4 A5", maxCount)
	holdVector(t, "Param D9; Copy D8 A9; Grad D9", 0xbf800000, inf, 0)
	holdVector(t, "Number D2 =7fc00000; Copy D8 A2", nan, nan, nan)
	holdVector(t, "Number D2 =ff800000; Loop; Copy D8 A2; Next", 0xff800000, 0xff800000, 0xff800000)
	holdUpdates(t, "Number D2 =40400000; Copy D12 A2; Out A12 N1; Copy D16 A2; Out A16", []api.F{0, 0, 0}, []api.F{0, three, 0, three}, []api.F{three})
	holdUpdates(t, "Grad D12 N1; Copy D13 A12; Out A13; Grad D16; Copy D17 A16; Out A17", []api.F{0, 0, 0}, []api.F{half, 0, minus, 0}, []api.F{six})
}

// TestElementwisePlain: VM2, a few by hand, in a loop and in none.
func TestElementwisePlain(t *testing.T) {
	for _, x := range []struct {
		text string
		want []api.F
	}{
		{"Add D8 A9 B10", []api.F{0, inf, three}}, {"Sub D8 A9 B10", []api.F{two, 0xff800000, three}}, {"Sub D8 A10 B9", []api.F{0xc0000000, inf, 0xc0400000}},
		{"Mul D8 A9 B10", []api.F{0xbf800000, inf, 0}}, {"Div D8 A9 B10", []api.F{0xbf800000, 0, inf}}, {"Div D8 A10 B9", []api.F{0xbf800000, inf, 0}},
		{"Min D8 A9 B10", []api.F{0xbf800000, two, 0}}, {"Max D8 A9 B10", []api.F{one, inf, three}}, {"Less D8 A9 B10", []api.F{0, one, 0}}, {"Less D8 A10 B9", []api.F{one, 0, one}},
		{"Sqrt D8 A10", []api.F{nan, inf, 0}}, {"Neg D8 A10", []api.F{one, 0xff800000, minus}}, {"Abs D8 A10", []api.F{one, inf, 0}}, {"Finite D8 A10", []api.F{one, 0, one}},
		{"Select D8 A10 B9 C0", []api.F{one, two, four}}, {"Select D8 A10 B0 C9", []api.F{four, four, three}}, {"Select D8 A1 B0 C9", []api.F{one, two, three}},
		{"Add D8 A0 B0", []api.F{0x41000000, 0x41000000, 0x41000000}}, {"Sqrt D8 A0", []api.F{two, two, two}}, {"Mul D8 A9 B0", []api.F{four, 0x41000000, 0x41400000}}, {"Sub D8 A0 B9", []api.F{three, two, one}},
	} {
		ahead := "Grad D9; Param D10; Number D0 =40800000; Number D1 =7fc00000;"
		holdVector(t, ahead+x.text, x.want...)
		holdVector(t, ahead+"Loop;"+x.text+"; Next", x.want...)
	}
	holdNumber(t, "Number D1 =40800000; Sqrt D0 A1", two)
	holdNumber(t, "Number D1 =40800000; Number D2 =40000000; Div D0 A1 B2", two)
	holdNumber(t, "Number D1 =40800000; Number D2 =40000000; Div D0 A2 B1", half)
}

// TestRoundedApart: VM2 and P10, a product and a sum are rounded each by itself, as numbers, as vectors and in a loop.
func TestRoundedApart(t *testing.T) {
	ahead := "Number D1 =3f800001; Number D2 =bf800002; Copy D9 A1; Copy D10 A2;" // the square of the first is the second but for its sign, rounded
	holdNumber(t, ahead+"Mul D0 A1 B1; Add D0 A0 B2", 0)
	holdVector(t, ahead+"Mul D8 A9 B9; Add D8 A8 B10", 0, 0, 0)
	holdVector(t, ahead+"Loop; Mul D8 A9 B9; Add D8 A8 B10; Next", 0, 0, 0)
	holdVector(t, ahead+"Loop; Mul D8 A9 B1; Sub D8 A10 B8; Add D8 A8 B10; Next", 0xc0400003, 0xc0400003, 0xc0400003)
}
