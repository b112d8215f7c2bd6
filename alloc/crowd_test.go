package alloc

import (
	"slices"
	"testing"

	"lathe/api"
	"lathe/samples"
)

// A crowd is the one of the samples, with what these tests put to it.
type crowd struct{ *samples.Crowd }

func newCrowd() *crowd { return &crowd{samples.NewCrowd()} }

// added is how many slots and instructions code has more than the one that it came of.
func added(c, d api.Code) (int, int) { return len(d.Slots) - len(c.Slots), len(d.List) - len(c.List) }

// TestJustEnough: RA2 and RA3, single code that has just as many of each sort alive as there may be registers: nothing is added, and each
// register is in use.
func TestJustEnough(t *testing.T) {
	for _, order := range []func(list []int){samples.AsTheyCame, slices.Reverse[[]int], samples.ByTurns} {
		for _, count := range [][samples.Sorts]int{{16}, {0, 16}, {0, 0, 8}, {0, 0, 0, 8}, {0, 0, 0, 0, 8}, {16, 16, 8, 8, 8}, {15, 15, 7, 7, 7}, {16, 1, 8, 1, 8}} {
			c := samples.Straight(count, order)
			if p := pressureOf(c); !slices.Equal(p, count[:]) || samples.IsFew(samples.Registers(c)) {
				t.Fatalf("Pressure %v, want %v", p, count)
			}
			d := holdUsual(t, c)
			if slots, list := added(c, d); slots != 0 || list != 0 || !slices.Equal(samples.Registers(d), count[:]) {
				t.Errorf("%v: %d slots and %d instructions more, registers %v", count, slots, list, samples.Registers(d))
			}
		}
	}
}

// TestOneTooMany: RA2 and RA3, single code that has one more of a sort alive than there may be registers: one waits in a slot. That it is
// just one, is the program's own choice.
func TestOneTooMany(t *testing.T) {
	for sort, most := range []int{16, 16, 8, 8, 8} {
		for _, order := range []func(list []int){samples.AsTheyCame, slices.Reverse[[]int], samples.ByTurns} {
			for _, others := range []int{0, 8} {
				count := [samples.Sorts]int{others, others, others, others, others}
				count[sort] = most + 1
				c := samples.Straight(count, order)
				if p := pressureOf(c); !slices.Equal(p, count[:]) {
					t.Fatalf("Pressure %v, want %v", p, count)
				}
				d := holdUsual(t, c)
				if slots, list := added(c, d); slots != 1 || list != 2 || d.Slots[10].Type != samples.TypeOf(sort) {
					t.Errorf("%v: %d slots and %d instructions more", count, slots, list)
				}
			}
		}
	}
}

// TestFarTooMany: RA2 and RA3, many more of one sort alive than there may be registers, and of several at once: those that do not fit wait
// in slots. That each does so once, is the program's own choice.
func TestFarTooMany(t *testing.T) {
	for _, count := range [][samples.Sorts]int{{17}, {18}, {40}, {300}, {0, 40}, {0, 300}, {0, 0, 30}, {0, 0, 0, 30}, {0, 0, 0, 0, 30}, {60, 50, 40, 30, 20}, {20, 0, 20, 0, 20}} {
		for _, order := range []func(list []int){samples.AsTheyCame, slices.Reverse[[]int], samples.ByTurns} {
			c := samples.Straight(count, order)
			if p := pressureOf(c); !slices.Equal(p, count[:]) {
				t.Fatalf("Pressure %v, want %v", p, count)
			}
			waiting := 0
			for sort, n := range count {
				waiting += max(0, n-samples.MostOf(sort))
			}
			d := holdUsual(t, c)
			if slots, list := added(c, d); slots != waiting || list != 2*waiting {
				t.Errorf("%v: %d slots and %d instructions more", count, slots, list)
			}
		}
	}
}

// TestReadAgain: RA2, values that are read again and again while there are too many.
func TestReadAgain(t *testing.T) {
	g := &samples.Grower{Source: 12}
	for sort := range samples.Sorts {
		for range 40 {
			c := newCrowd()
			list := c.Come(sort, 10+g.Below(30))
			for range 60 {
				k := g.Below(len(list))
				list[k] = c.More(sort, list[g.Below(len(list))])
			}
			c.Leave(sort, list)
			holdUsual(t, c.Code)
		}
	}
}

// TestOneReadsMany: RA2, an instruction that reads three of those that wait in slots, and whose own answer has to have room.
func TestOneReadsMany(t *testing.T) {
	g := &samples.Grower{Source: 13}
	for sort := range samples.Sorts {
		name := "Select"
		if sort == 1 {
			name = "Choose"
		}
		for n := range 60 {
			c := newCrowd()
			list := c.Come(sort, 17+g.Below(20))
			for range 30 {
				a, b, d := g.Below(len(list)), g.Below(len(list)), g.Below(len(list))
				last := c.Set(sort, name, list[a], list[b], list[d])
				if n%2 == 0 {
					list[g.Below(len(list))] = last
				} else {
					list = append(list, last)
				}
			}
			c.Leave(sort, list)
			holdUsual(t, c.Code)
		}
	}
}

// TestSlotsShared: RA2, what has been read for the last time makes room for others, in registers and in slots. That slots are shared, is
// the program's own choice.
func TestSlotsShared(t *testing.T) {
	for sort, most := range []int{16, 16, 8, 8, 8} {
		c := newCrowd()
		for range 20 {
			c.Leave(sort, c.Come(sort, most+3))
		}
		d := holdUsual(t, c.Code)
		if slots, list := added(c.Code, d); slots != 3 || list != 20*6 {
			t.Errorf("sort %d: %d slots and %d instructions more", sort, slots, list)
		}
	}
}

// TestSources: RA2, what hangs on nothing is made again where it is read, instead of waiting in a slot: the program's own choice.
func TestSources(t *testing.T) {
	for sort, names := range [][]string{{"Number =3f800000", "Number =80000000", "Number =7fc00000"}, {"Whole N3", "Whole N2147483647", "Whole"}, {"Grad", "Param"}, {"Grad", "Param N1", "Grad N1", "Param"}, {"Param", "Grad"}} {
		for _, order := range []func(list []int){samples.AsTheyCame, slices.Reverse[[]int], samples.ByTurns} {
			c := newCrowd()
			var list []int
			for n := range 40 {
				list = append(list, c.Set(sort, names[n%len(names)]))
			}
			order(list)
			c.Leave(sort, list)
			d := holdUsual(t, c.Code)
			if slots, more := added(c.Code, d); slots != 0 || more != 40-samples.MostOf(sort) || samples.Counts(d)[32] != 0 || samples.Counts(d)[33] != 1 {
				t.Errorf("%v: %d slots and %d instructions more: %s", names, slots, more, samples.Show(d))
			}
		}
	}
}
