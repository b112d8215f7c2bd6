package alloc

import (
	"slices"
	"testing"

	"lathe/api"
	"lathe/samples"
)

// when begins a block that is done or left out by a register.
func (c *crowd) when(register int) { c.List = append(c.List, api.Inst{Op: 34, A: register}) }

// counts are of a sort so many that nothing has to wait, just as many as there are registers, and more.
func counts(sort int) []int {
	return []int{1, 3, samples.MostOf(sort) - 1, samples.MostOf(sort), samples.MostOf(sort) + 1, 2*samples.MostOf(sort) + 5}
}

// TestAroundBlocks: RA2 and RA3, values that come ahead of a block and go behind it, while others come and go in it; the block is done, and
// left out.
func TestAroundBlocks(t *testing.T) {
	for sort := range samples.Sorts {
		for _, outer := range counts(sort) {
			for _, inner := range counts(sort) {
				c := newCrowd()
				when := c.Load(1)
				list := c.Come(sort, outer)
				c.when(when)
				c.Leave(sort, c.Come(sort, inner))
				c.Put("End")
				c.Leave(sort, list)
				holdUsual(t, c.Code)
			}
		}
	}
}

// TestReadInBlocks: RA2 and RA3, values that come ahead of a block are read in it: some for the last time, some not, and all behind one
// another, while others come and go.
func TestReadInBlocks(t *testing.T) {
	for sort := range samples.Sorts {
		for _, outer := range counts(sort) {
			for _, inner := range counts(sort) {
				c := newCrowd()
				when := c.Load(1)
				list := c.Come(sort, outer)
				inside, behind := list[outer/3:], list[:1+outer/2]
				c.when(when)
				others := c.Come(sort, inner)
				c.Leave(sort, inside)
				c.Leave(sort, others)
				c.Put("End")
				c.Leave(sort, behind)
				holdUsual(t, c.Code)
			}
		}
	}
}

// TestReadInTwo: RA2 and RA3, of the values that come ahead of several blocks each block reads some, one way round and the other.
func TestReadInTwo(t *testing.T) {
	for sort := range samples.Sorts {
		for _, outer := range counts(sort) {
			c := newCrowd()
			when := c.Load(1)
			list := c.Come(sort, outer)
			for n := range 3 {
				c.when(when)
				c.Leave(sort, slices.Concat(list[n*outer/4:], c.Come(sort, 4)))
				c.Put("End")
				slices.Reverse(list)
			}
			samples.ByTurns(list)
			c.Leave(sort, list)
			holdUsual(t, c.Code)
		}
	}
}

// nest puts blocks within one another to the code, each with values of its own, of which the inner ones read some; what comes ahead is
// read behind.
func (c *crowd) nest(sort, depth, count int, around []int) {
	list := c.Come(sort, count)
	when := c.Load(1)
	c.when(c.Set(1, []string{"Inc", "Not"}[depth%2], when))
	if depth > 1 {
		c.nest(sort, depth-1, count, slices.Concat(list, around))
	}
	c.Leave(sort, slices.Concat(list[count/2:], around))
	c.Put("End")
	c.Leave(sort, list)
}

// TestNested: RA2 and RA3, blocks within one another, of which each is done or not.
func TestNested(t *testing.T) {
	for sort := range samples.Sorts {
		for _, count := range counts(sort) {
			for depth := 1; depth <= 4; depth++ {
				c := newCrowd()
				around := c.Come(sort, 2)
				c.nest(sort, depth, count, around)
				c.Leave(sort, around)
				holdUsual(t, c.Code)
			}
		}
	}
}

// TestDeepest: RA2 and RA3, as many blocks within one another as may be, with values in each that are read in the innermost one and behind.
func TestDeepest(t *testing.T) {
	for sort := range samples.Sorts {
		for _, count := range []int{1, 2, 3} {
			c := newCrowd()
			when := c.Load(1)
			var lists [][]int
			for range maxNest {
				lists = append(lists, c.Come(sort, count))
				c.when(when)
			}
			c.Leave(sort, slices.Concat(lists...))
			for n := range lists {
				c.Put("End")
				c.Leave(sort, lists[maxNest-1-n])
			}
			d := holdUsual(t, c.Code)
			if samples.IsFew(pressureOf(c.Code)) || samples.Counts(d)[34] != maxNest {
				t.Errorf("Pressure %v, %d blocks", pressureOf(c.Code), samples.Counts(d)[34])
			}
		}
	}
}

// TestLeftOut: RA2, a block in which values that are read behind it have to make room is left out in one step, and done in the next one, by
// a count: what stands where is the same on both ways.
func TestLeftOut(t *testing.T) {
	for sort := range samples.Sorts {
		if sort == 1 {
			continue // its slot has the count
		}
		c := newCrowd()
		count := c.Set(1, "Inc", c.Load(1))
		c.List = append(c.List, api.Inst{Op: 33, A: count, N: 1})
		two := c.Set(1, "Whole N2")
		half := c.Set(1, "Over", count, two)
		odd := c.Set(1, "Minus", c.Set(1, "Minus", count, half), half)
		for range 3 {
			list := c.Come(sort, 2*samples.MostOf(sort))
			c.when(odd)
			c.Leave(sort, c.Come(sort, samples.MostOf(sort)))
			c.Put("End")
			c.when(c.Set(1, "Not", odd))
			c.Leave(sort, slices.Concat(list[3:], c.Come(sort, 5)))
			c.Put("End")
			c.Leave(sort, list)
		}
		g := &samples.Grower{Source: 14}
		holdMeaning(t, g, c.Code, hold(t, g, c.Code), 9)
	}
}

// TestWhenWaits: RA2, what blocks hang on waits in slots itself.
func TestWhenWaits(t *testing.T) {
	c := newCrowd()
	list := c.Come(1, 40)
	number := c.Load(0)
	for n, register := range list {
		c.when(register)
		if n%2 == 1 {
			c.when(list[len(list)-n])
		}
		number = c.More(0, c.Load(0))
		c.List = append(c.List, api.Inst{Op: 33, A: number, N: 0})
		if n%2 == 1 {
			c.Put("End")
		}
		c.Put("End")
	}
	c.Leave(1, list)
	d := holdUsual(t, c.Code)
	if slots, _ := added(c.Code, d); slots < 24 || slots > 40 {
		t.Errorf("%d slots more", slots)
	}
}

// TestStoredOnce: RA2, what waits more than once is stored once, if no block lies between: the program's own choice. One in which nothing
// has to make room changes nothing.
func TestStoredOnce(t *testing.T) {
	for sort := range samples.Sorts {
		c := newCrowd()
		when := c.Load(1)
		list := c.Come(sort, 2*samples.MostOf(sort)+5)
		for range 4 {
			c.Leave(sort, list)
			c.when(when)
			c.Put("End")
		}
		c.Leave(sort, list)
		d := holdUsual(t, c.Code)
		slots, _ := added(c.Code, d)
		if stores := samples.Counts(d)[33] - samples.Counts(c.Code)[33]; stores != slots || slots > len(list) { // each has a slot of its own
			t.Errorf("%d are stored %d times", slots, stores)
		}
	}
}
