package alloc

import (
	"slices"
	"strconv"
	"testing"

	"lathe/api"
	"lathe/samples"
)

// A crowd is single code with the usual slots that grows by hand, and may have many values alive at once. All that it reads in the end
// comes out of other ones, in an order that is seen.
type crowd struct{ api.Code }

func newCrowd() *crowd {
	c := &crowd{usual("")}
	c.Regs = nil
	for sort, bits := range []api.F{0x3fb504f3, 0, 0x40490fdb, 0x3f9d70a4, 0xbf4ccccd} { // noughts would be noughts however they are mixed up
		c.Slots[sort].Bits = bits
	}
	return c
}

// typeOf is the type of a sort of the usual code: numbers, whole numbers, vectors of w, z, u.
func typeOf(sort int) api.Type {
	if sort < 2 {
		return api.Type{Kind: 1 + sort}
	}
	return api.Type{Kind: 3, Param: sort - 2}
}

func (c *crowd) put(text string) { c.List = append(c.List, read(text)...) }

// set is a new register that an instruction sets, which reads what is handed in.
func (c *crowd) set(sort int, name string, reads ...int) int {
	i := read(name)[0]
	i.D = len(c.Regs)
	for k, register := range reads {
		*[]*int{&i.A, &i.B, &i.C}[k] = register
	}
	c.Regs = append(c.Regs, typeOf(sort))
	c.List = append(c.List, i)
	return i.D
}

// load is a new register with what the kept slot of a sort holds.
func (c *crowd) load(sort int) int { return c.set(sort, "Load N"+strconv.Itoa(sort)) }

// more is a new register with something else than a given one holds: behind each instruction of it there is one more of the sort alive, at
// most.
func (c *crowd) more(sort, from int) int {
	if sort == 1 {
		return c.set(sort, "Inc", from)
	}
	return c.set(sort, "Add", from, from)
}

// come are so many new registers of a sort, each with something else.
func (c *crowd) come(sort, count int) []int {
	list := []int{c.load(sort)}
	for len(list) < count {
		list = append(list, c.more(sort, list[len(list)-1]))
	}
	return list[:count]
}

// leave reads registers of a sort one after the other, and leaves what comes of them in the kept slot of it; of vectors also as an update. In
// that order more and more of them are not alive.
func (c *crowd) leave(sort int, list []int) {
	into, name := list[0], "Sub"
	if sort == 1 {
		name = "Minus"
	}
	for _, register := range list[1:] {
		into = c.set(sort, name, register, into)
	}
	c.List = append(c.List, api.Inst{Op: 33, A: into, N: sort})
	if sort > 1 {
		c.List = append(c.List, api.Inst{Op: 31, A: into})
	}
}

// sorts are how many there are in the usual code.
const sorts = 5

// straight is code that has so many of each sort alive at once.
func straight(count [sorts]int, order func(list []int)) api.Code {
	c := newCrowd()
	var lists [sorts][]int
	for sort, n := range count {
		if n > 0 {
			lists[sort] = c.come(sort, n)
			order(lists[sort])
		}
	}
	for sort, list := range lists {
		if len(list) > 0 {
			c.leave(sort, list)
		}
	}
	return c.Code
}

func asTheyCame(list []int) {}

// byTurns puts a list in another order: the first, the last, the second ..
func byTurns(list []int) {
	came := slices.Clone(list)
	for k := range list {
		list[k] = came[k/2]
		if k%2 == 1 {
			list[k] = came[len(came)-1-k/2]
		}
	}
}

// added is how many slots and instructions code has more than the one that it came of.
func added(c, d api.Code) (int, int) { return len(d.Slots) - len(c.Slots), len(d.List) - len(c.List) }

// TestJustEnough: RA2 and RA3, single code that has just as many of each sort alive as there may be registers: nothing is added, and each
// register is in use.
func TestJustEnough(t *testing.T) {
	for _, order := range []func(list []int){asTheyCame, slices.Reverse[[]int], byTurns} {
		for _, count := range [][sorts]int{{16}, {0, 16}, {0, 0, 8}, {0, 0, 0, 8}, {0, 0, 0, 0, 8}, {16, 16, 8, 8, 8}, {15, 15, 7, 7, 7}, {16, 1, 8, 1, 8}} {
			c := straight(count, order)
			if p := pressureOf(c); !slices.Equal(p, count[:]) || isFew(registersOf(c)) {
				t.Fatalf("Pressure %v, want %v", p, count)
			}
			d := holdUsual(t, c)
			if slots, list := added(c, d); slots != 0 || list != 0 || !slices.Equal(registersOf(d), count[:]) {
				t.Errorf("%v: %d slots and %d instructions more, registers %v", count, slots, list, registersOf(d))
			}
		}
	}
}

// TestOneTooMany: RA2 and RA3, single code that has one more of a sort alive than there may be registers: one waits in a slot. That it is
// just one, is the program's own choice.
func TestOneTooMany(t *testing.T) {
	for sort, most := range []int{16, 16, 8, 8, 8} {
		for _, order := range []func(list []int){asTheyCame, slices.Reverse[[]int], byTurns} {
			for _, others := range []int{0, 8} {
				count := [sorts]int{others, others, others, others, others}
				count[sort] = most + 1
				c := straight(count, order)
				if p := pressureOf(c); !slices.Equal(p, count[:]) {
					t.Fatalf("Pressure %v, want %v", p, count)
				}
				d := holdUsual(t, c)
				if slots, list := added(c, d); slots != 1 || list != 2 || d.Slots[10].Type != typeOf(sort) {
					t.Errorf("%v: %d slots and %d instructions more", count, slots, list)
				}
			}
		}
	}
}

// TestFarTooMany: RA2 and RA3, many more of one sort alive than there may be registers, and of several at once: those that do not fit wait
// in slots. That each does so once, is the program's own choice.
func TestFarTooMany(t *testing.T) {
	for _, count := range [][sorts]int{{17}, {18}, {40}, {300}, {0, 40}, {0, 300}, {0, 0, 30}, {0, 0, 0, 30}, {0, 0, 0, 0, 30}, {60, 50, 40, 30, 20}, {20, 0, 20, 0, 20}} {
		for _, order := range []func(list []int){asTheyCame, slices.Reverse[[]int], byTurns} {
			c := straight(count, order)
			if p := pressureOf(c); !slices.Equal(p, count[:]) {
				t.Fatalf("Pressure %v, want %v", p, count)
			}
			waiting := 0
			for sort, n := range count {
				waiting += max(0, n-mostOf(sort))
			}
			d := holdUsual(t, c)
			if slots, list := added(c, d); slots != waiting || list != 2*waiting {
				t.Errorf("%v: %d slots and %d instructions more", count, slots, list)
			}
		}
	}
}

// TestReadAgain: RA2, values that are read again and again while there are too many.
func TestReadAgain(t *testing.T) {
	g := &samples.Grower{Source: 12}
	for sort := range sorts {
		for range 40 {
			c := newCrowd()
			list := c.come(sort, 10+g.Below(30))
			for range 60 {
				k := g.Below(len(list))
				list[k] = c.more(sort, list[g.Below(len(list))])
			}
			c.leave(sort, list)
			holdUsual(t, c.Code)
		}
	}
}

// TestOneReadsMany: RA2, an instruction that reads three of those that wait in slots, and whose own answer has to have room.
func TestOneReadsMany(t *testing.T) {
	g := &samples.Grower{Source: 13}
	for sort := range sorts {
		name := "Select"
		if sort == 1 {
			name = "Choose"
		}
		for n := range 60 {
			c := newCrowd()
			list := c.come(sort, 17+g.Below(20))
			for range 30 {
				a, b, d := g.Below(len(list)), g.Below(len(list)), g.Below(len(list))
				last := c.set(sort, name, list[a], list[b], list[d])
				if n%2 == 0 {
					list[g.Below(len(list))] = last
				} else {
					list = append(list, last)
				}
			}
			c.leave(sort, list)
			holdUsual(t, c.Code)
		}
	}
}

// TestSlotsShared: RA2, what has been read for the last time makes room for others, in registers and in slots. That slots are shared, is
// the program's own choice.
func TestSlotsShared(t *testing.T) {
	for sort, most := range []int{16, 16, 8, 8, 8} {
		c := newCrowd()
		for range 20 {
			c.leave(sort, c.come(sort, most+3))
		}
		d := holdUsual(t, c.Code)
		if slots, list := added(c.Code, d); slots != 3 || list != 20*6 {
			t.Errorf("sort %d: %d slots and %d instructions more", sort, slots, list)
		}
	}
}

// TestSources: RA2, what hangs on nothing is made again where it is read, instead of waiting in a slot: the program's own choice.
func TestSources(t *testing.T) {
	for sort, names := range [][]string{{"Number =3f800000", "Number =80000000", "Number =7fc00000"}, {"Whole N3", "Whole N2147483647", "Whole"}, {"Grad", "Param"}, {"Grad", "Param N1", "Grad N1", "Param"}, {"Param", "Grad"}} {
		for _, order := range []func(list []int){asTheyCame, slices.Reverse[[]int], byTurns} {
			c := newCrowd()
			var list []int
			for n := range 40 {
				list = append(list, c.set(sort, names[n%len(names)]))
			}
			order(list)
			c.leave(sort, list)
			d := holdUsual(t, c.Code)
			if slots, more := added(c.Code, d); slots != 0 || more != 40-mostOf(sort) || samples.Counts(d)[32] != 0 || samples.Counts(d)[33] != 1 {
				t.Errorf("%v: %d slots and %d instructions more: %s", names, slots, more, samples.Show(d))
			}
		}
	}
}
