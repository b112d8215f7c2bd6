package alloc

import (
	"slices"
	"testing"

	"lathe/api"
	"lathe/samples"
)

// loop begins a loop of the vectors of a sort.
func (c *crowd) loop(sort int) { c.List = append(c.List, api.Inst{Op: 36, N: sort - 2}) }

// TestVectorsInLoops: RA2 and RA3, more vectors alive in a loop than there may be registers, and as many: of those that come ahead of it, of
// those that come in it, and of those that go behind it.
func TestVectorsInLoops(t *testing.T) {
	for sort := 2; sort < samples.Sorts; sort++ {
		for _, ahead := range counts(sort) {
			for _, inner := range counts(sort) {
				c := newCrowd()
				first := c.Come(sort, ahead)
				c.loop(sort)
				list := c.Come(sort, inner)
				c.Leave(sort, slices.Concat(list[inner/2:], first[ahead/2:]))
				c.Put("Next")
				c.Leave(sort, slices.Concat(list, first))
				d := holdUsual(t, c.Code)
				if loops := samples.Counts(d)[36]; loops != 1 {
					t.Errorf("%d loops: %s", loops, samples.Show(d))
				}
			}
		}
	}
}

// TestOneInLoop: RA2 and RA3, single code with just as many vectors alive in a loop as there may be registers, and one more.
func TestOneInLoop(t *testing.T) {
	for sort := 2; sort < samples.Sorts; sort++ {
		for more := range 2 {
			c := newCrowd()
			c.loop(sort)
			c.Leave(sort, c.Come(sort, keepVector+more))
			c.Put("Next")
			d := holdUsual(t, c.Code)
			if slots, list := added(c.Code, d); slots != more || list != 2*more || pressureOf(c.Code)[sort] != keepVector+more {
				t.Errorf("%d more: %d slots and %d instructions", more, slots, list)
			}
		}
	}
}

// withNumbers is a loop of a sort that reads each of these numbers, so many at once.
func (c *crowd) withNumbers(sort int, list []int, width int) {
	c.loop(sort)
	vector := c.Load(sort)
	for n := 0; n < len(list); n += width {
		some := list[n:min(n+width, len(list))]
		switch len(some) {
		case 1:
			vector = c.Set(sort, "Sub", vector, some[0])
		case 2:
			vector = c.Set(sort, "Select", vector, some[0], some[1])
			vector = c.Set(sort, "Mul", some[1], vector)
		default:
			vector = c.Set(sort, "Add", vector, c.Set(sort, "Select", some...))
		}
	}
	c.List = append(c.List, api.Inst{Op: 33, A: vector, N: sort}, api.Inst{Op: 31, A: vector})
	c.Put("Next")
}

// TestNumbersInLoops: RA2 and RA3, loops that read many numbers: where these are more than there may be registers, the loop is cut, as
// nothing can be loaded in it but vectors. That it is cut as seldom as can be, is the program's own choice.
func TestNumbersInLoops(t *testing.T) {
	for _, x := range []struct{ count, width, loops int }{
		{1, 1, 1}, {15, 1, 1}, {16, 1, 1}, {17, 1, 2}, {32, 1, 2}, {33, 1, 3}, {100, 1, 7}, {16, 2, 1}, {17, 2, 2}, {40, 2, 3}, {15, 3, 1}, {16, 3, 1}, {17, 3, 2}, {18, 3, 2}, {30, 3, 2}, {31, 3, 2}, {32, 3, 3}, {90, 3, 6},
	} {
		for sort := 2; sort < samples.Sorts; sort++ {
			for _, behind := range []bool{false, true} {
				c := newCrowd()
				list := c.Come(0, x.count)
				c.withNumbers(sort, list, x.width)
				if behind {
					c.Leave(0, list)
				}
				d := holdUsual(t, c.Code)
				if loops := samples.Counts(d)[36]; loops != x.loops {
					t.Errorf("%+v: %d loops: %s", x, loops, samples.Show(d))
				}
			}
		}
	}
}

// TestNumbersAgain: RA2 and RA3, loops one behind the other that read the same numbers, and some of them, in another order; other numbers
// come and go in between.
func TestNumbersAgain(t *testing.T) {
	g := &samples.Grower{Source: 15}
	for range 60 {
		c := newCrowd()
		list := c.Come(0, 10+g.Below(40))
		for range 1 + g.Below(5) {
			for k := range list {
				other := g.Below(len(list))
				list[k], list[other] = list[other], list[k]
			}
			c.withNumbers(2+g.Below(3), list[g.Below(len(list)):], 1+g.Below(3))
			c.Leave(0, c.Come(0, 1+g.Below(20)))
		}
		if g.Below(2) == 0 {
			c.Leave(0, list)
		}
		holdUsual(t, c.Code)
	}
}

// TestSourcesInLoops: RA2, numbers that hang on nothing are made again ahead of a loop, vectors that do so within it.
func TestSourcesInLoops(t *testing.T) {
	c := newCrowd()
	var list, vectors []int
	for n := range 40 {
		list = append(list, c.Set(0, "Number =3f800000"))
		c.List[n].Bits += api.F(n)
	}
	c.withNumbers(2, list, 1)
	c.withNumbers(3, list, 3)
	c.loop(2)
	for n := range 20 {
		vectors = append(vectors, c.Set(2, []string{"Grad", "Param"}[n%2]))
	}
	c.Leave(2, vectors)
	c.Put("Next")
	d := holdUsual(t, c.Code)
	if slots, _ := added(c.Code, d); slots != 0 || samples.Counts(d)[36] != 7 {
		t.Errorf("%d slots more, %d loops", slots, samples.Counts(d)[36])
	}
}

// TestLoopsInBlocks: RA2 and RA3, loops that are cut within blocks, and blocks between loops, with numbers and vectors that are alive around
// them.
func TestLoopsInBlocks(t *testing.T) {
	for sort := 2; sort < samples.Sorts; sort++ {
		for _, count := range []int{3, 16, 17, 40} {
			for width := 1; width <= 3; width++ {
				c := newCrowd()
				when := c.Load(1)
				list, vectors := c.Come(0, count), c.Come(sort, count/2+1)
				c.withNumbers(sort, list, width)
				c.when(when)
				more := c.Come(0, count)
				c.withNumbers(sort, slices.Concat(more, list[count/2:]), width)
				c.when(c.Set(1, "Not", when))
				c.withNumbers(sort, more, width)
				c.Put("End")
				c.Put("End")
				c.withNumbers(sort, list[:1+count/3], width)
				c.Leave(sort, vectors)
				c.Leave(0, list)
				holdUsual(t, c.Code)
			}
		}
	}
}

// TestEmptyLoops: RA2, loops without anything in them stay as they are, also where there is too much of everything around them.
func TestEmptyLoops(t *testing.T) {
	c := newCrowd()
	numbers := c.Come(0, 30)
	c.Put("Loop; Next; Loop N2; Next")
	vectors := c.Come(2, 30)
	c.Put("Loop; Next; Loop N2; Next")
	c.Leave(2, vectors)
	c.Leave(0, numbers)
	if d := holdUsual(t, c.Code); samples.Counts(d)[36] != 4 || samples.Counts(d)[37] != 4 {
		t.Errorf("%s", samples.Show(d))
	}
}

// TestLoopsBeside: RA2, loops of each parameter, with too many vectors of all of them alive at once.
func TestLoopsBeside(t *testing.T) {
	c := newCrowd()
	var lists [samples.Sorts][]int
	for turn := range 3 {
		for sort := 2; sort < samples.Sorts; sort++ {
			c.loop(sort)
			if turn > 0 {
				c.Leave(sort, lists[sort][turn:])
			}
			lists[sort] = append(lists[sort], c.Come(sort, 6)...)
			c.Put("Next")
		}
	}
	for sort := 2; sort < samples.Sorts; sort++ {
		c.Leave(sort, lists[sort])
	}
	d := holdUsual(t, c.Code)
	if p := pressureOf(c.Code); samples.Counts(d)[36] != 9 || p[2] < 18 || p[3] < 18 || p[4] < 18 {
		t.Errorf("Pressure %v: %s", p, samples.Show(d))
	}
}
