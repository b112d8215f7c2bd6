package alloc

import (
	"slices"
	"strings"
	"testing"

	"lathe/api"
	"lathe/samples"
)

// renew sets a register of a sort anew, by another one.
func (c *crowd) renew(sort, register, from int) {
	c.More(sort, from)
	c.Regs = c.Regs[:len(c.Regs)-1]
	c.List[len(c.List)-1].D = register
}

// TestRenewed: RA2 and RA3, registers that are set again and again, more than there may be; one behind the other, and by each other.
func TestRenewed(t *testing.T) {
	g := &samples.Grower{Source: 16}
	for sort := range samples.Sorts {
		for _, count := range counts(sort) {
			c := newCrowd()
			list := c.Come(sort, count)
			for range 3 {
				for k := range list {
					c.renew(sort, list[k], list[g.Below(count)])
				}
				samples.ByTurns(list)
			}
			c.Leave(sort, list)
			d := holdUsual(t, c.Code)
			if slots, _ := added(c.Code, d); (slots > 0) != (count > samples.MostOf(sort)) {
				t.Errorf("%d of sort %d: %d slots more", count, sort, slots)
			}
		}
	}
}

// TestFewAlive: RA2 and RA3, many registers that are set again and again, of which few are alive at once: nothing has to wait. That nothing
// is added, is the program's own choice.
func TestFewAlive(t *testing.T) {
	for sort := range samples.Sorts {
		c := newCrowd()
		list := c.Come(sort, 50)
		c.List = c.List[:1] // of the registers only the first one is set so far
		for n := range 300 {
			c.renew(sort, list[(n+1)%50], list[n%50])
		}
		c.Leave(sort, []int{list[0]})
		d := holdUsual(t, c.Code)
		if slots, more := added(c.Code, d); slots != 0 || more != 0 || samples.IsSingle(c.Code) {
			t.Errorf("%d slots and %d instructions more", slots, more)
		}
	}
}

// TestRenewedInBlocks: RA2 and RA3, registers that come ahead of a block and are set anew in it, where they stand in a register or wait in a
// slot: what they hold behind it hangs on whether it was done. Others come and go in the block, behind it, or both.
func TestRenewedInBlocks(t *testing.T) {
	for sort := range samples.Sorts {
		for _, count := range counts(sort) {
			for which := range 32 {
				c := newCrowd()
				when := c.Load(1)
				list := c.Come(sort, count)
				c.when(when)
				some := list[which%4*count/4:]
				for k, register := range some {
					c.renew(sort, register, some[len(some)-1-k])
				}
				if which&4 != 0 {
					c.Leave(sort, c.Come(sort, samples.MostOf(sort)+2))
				}
				if which&8 != 0 {
					c.renew(sort, list[0], list[count-1])
				}
				c.Put("End")
				if which&16 != 0 {
					c.Leave(sort, c.Come(sort, samples.MostOf(sort)+2))
				}
				c.Leave(sort, list)
				holdUsual(t, c.Code)
			}
		}
	}
}

// TestRenewedFirst: RA2 and RA3, registers that a block sets anew ahead of reading them: what they held is not alive in it, but behind it
// where it is left out.
func TestRenewedFirst(t *testing.T) {
	for sort := range samples.Sorts {
		for _, count := range counts(sort) {
			for which := range 8 {
				c := newCrowd()
				when := c.Load(1)
				list := c.Come(sort, count)
				c.when(when)
				others := c.Come(sort, samples.MostOf(sort)+which)
				for k, register := range list {
					if which&1 == 0 || k%2 == 0 {
						c.renew(sort, register, others[k%len(others)])
					}
				}
				if which&2 == 0 {
					c.Leave(sort, others)
				}
				if which&4 == 0 {
					c.Leave(sort, list)
				}
				c.Put("End")
				c.Leave(sort, list)
				holdUsual(t, c.Code)
			}
		}
	}
}

// TestRenewedDeep: RA2 and RA3, registers that are set anew in blocks within one another, each of which may be left out.
func TestRenewedDeep(t *testing.T) {
	g := &samples.Grower{Source: 17}
	for n := range 300 {
		sort := n % samples.Sorts
		c := newCrowd()
		list := c.Come(sort, 3+g.Below(3*samples.MostOf(sort)))
		depth := 0
		for range 40 {
			switch g.Below(6) {
			case 0:
				if depth < 5 {
					c.when(c.Set(1, []string{"Inc", "Not"}[g.Below(2)], c.Load(1)))
					depth++
				}
			case 1:
				if depth > 0 {
					c.Put("End")
					depth--
				}
			case 2:
				c.Leave(sort, c.Come(sort, 1+g.Below(2*samples.MostOf(sort))))
			default:
				c.renew(sort, list[g.Below(len(list))], list[g.Below(len(list))])
			}
		}
		c.Put(strings.Repeat("End;", depth))
		c.Leave(sort, list)
		holdUsual(t, c.Code)
	}
}

// TestSourcesAgain: RA2, what hangs on nothing, but is set more than once, is not the same wherever it is read.
func TestSourcesAgain(t *testing.T) {
	for sort, names := range [][]string{{"Number =3f800000", "Number =40000000"}, {"Whole N1", "Whole N2"}, {"Grad", "Param"}, {"Grad", "Grad N1"}, {"Param", "Grad"}} {
		for _, isBlock := range []bool{false, true} {
			c := newCrowd()
			when := c.Load(1)
			var list []int
			for range 40 {
				list = append(list, c.Set(sort, names[0]))
			}
			if isBlock {
				c.when(when)
			}
			for _, register := range list {
				i := read(names[1])[0]
				i.D = register
				c.List = append(c.List, i)
				slices.Reverse(list)
			}
			if isBlock {
				c.Put("End")
			}
			c.Leave(sort, list)
			holdUsual(t, c.Code)
		}
	}
}

// TestNeverReadAgain: RA2, registers that are set and never read have room, too, where there is too much of everything.
func TestNeverReadAgain(t *testing.T) {
	for sort := range samples.Sorts {
		c := newCrowd()
		when := c.Load(1)
		list := c.Come(sort, 2*samples.MostOf(sort))
		for range 5 {
			c.More(sort, list[0])
			c.when(when)
			c.More(sort, list[len(list)-1])
			c.renew(sort, list[3], list[1])
			c.renew(sort, list[3], list[2])
			c.Put("End")
		}
		c.Leave(sort, slices.DeleteFunc(list, func(register int) bool { return register == list[3] }))
		holdUsual(t, c.Code)
	}
}

// TestFewStay: RA2 and RA3, code that is not single and has as many registers of each sort as there may be: nothing is added, however its
// blocks set them anew.
func TestFewStay(t *testing.T) {
	g := &samples.Grower{Source: 18}
	full := 0
	for range 800 {
		c := g.Merged(g.SingleCode(300), keepVector)
		if !samples.IsFew(samples.Registers(c)) {
			t.Fatalf("%v registers", samples.Registers(c))
		}
		d := hold(t, g, c)
		if slots, more := added(c, d); slots != 0 || more != 0 {
			t.Fatalf("%d slots and %d instructions more", slots, more)
		}
		if !samples.IsSingle(c) && samples.Counts(c)[34] > 2 {
			full++
		}
	}
	if full < 200 {
		t.Errorf("only %d with blocks", full)
	}
}

// TestSwapped: RA2, two registers whose values change places in a block, by way of a third one.
func TestSwapped(t *testing.T) {
	for sort := range samples.Sorts {
		for _, count := range counts(sort) {
			c := newCrowd()
			when := c.Load(1)
			list := c.Come(sort, count)
			c.when(when)
			for k := range count / 2 {
				last := count - 1 - k
				third := c.Set(sort, "Copy", list[k])
				c.List = append(c.List, api.Inst{Op: 3, D: list[k], A: list[last]}, api.Inst{Op: 3, D: list[last], A: third})
			}
			c.Put("End")
			c.Leave(sort, list)
			holdUsual(t, c.Code)
		}
	}
}
