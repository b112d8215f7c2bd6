package samples

import (
	"slices"
	"strconv"

	"lathe/api"
)

// Sorts are how many sorts of registers the usual code has: numbers, whole numbers, vectors of w, z, u.
const Sorts = 5

// TypeOf is the type of one of these.
func TypeOf(sort int) api.Type {
	if sort < 2 {
		return api.Type{Kind: 1 + sort}
	}
	return api.Type{Kind: 3, Param: sort - 2}
}

// A Crowd is single code with the usual slots that grows by hand, and may have many values alive at once. All that it reads in the end
// comes out of other ones, in an order that is seen.
type Crowd struct{ api.Code }

// NewCrowd has nothing yet.
func NewCrowd() *Crowd {
	c := &Crowd{Usual("")}
	c.Regs = nil
	for sort, bits := range []api.F{0x3fb504f3, 0, 0x40490fdb, 0x3f9d70a4, 0xbf4ccccd} { // noughts would be noughts however they are mixed up
		c.Slots[sort].Bits = bits
	}
	return c
}

// Put puts instructions to the code.
func (c *Crowd) Put(text string) { c.List = append(c.List, Read(text)...) }

// Set is a new register that an instruction sets, which reads what is handed in.
func (c *Crowd) Set(sort int, name string, reads ...int) int {
	i := Read(name)[0]
	i.D = len(c.Regs)
	for k, register := range reads {
		*[]*int{&i.A, &i.B, &i.C}[k] = register
	}
	c.Regs = append(c.Regs, TypeOf(sort))
	c.List = append(c.List, i)
	return i.D
}

// Load is a new register with what the kept slot of a sort holds.
func (c *Crowd) Load(sort int) int { return c.Set(sort, "Load N"+strconv.Itoa(sort)) }

// More is a new register with something else than a given one holds: behind each instruction of it there is one more of the sort alive, at
// most.
func (c *Crowd) More(sort, from int) int {
	if sort == 1 {
		return c.Set(sort, "Inc", from)
	}
	return c.Set(sort, "Add", from, from)
}

// Come are so many new registers of a sort, each with something else.
func (c *Crowd) Come(sort, count int) []int {
	list := []int{c.Load(sort)}
	for len(list) < count {
		list = append(list, c.More(sort, list[len(list)-1]))
	}
	return list[:count]
}

// Leave reads registers of a sort one after the other, and leaves what comes of them in the kept slot of it; of vectors also as an update. In
// that order more and more of them are not alive.
func (c *Crowd) Leave(sort int, list []int) {
	into, name := list[0], "Sub"
	if sort == 1 {
		name = "Minus"
	}
	for _, register := range list[1:] {
		into = c.Set(sort, name, register, into)
	}
	c.List = append(c.List, api.Inst{Op: 33, A: into, N: sort})
	if sort > 1 {
		c.List = append(c.List, api.Inst{Op: 31, A: into})
	}
}

// Straight is code that has so many of each sort alive at once, which it reads in an order.
func Straight(count [Sorts]int, order func(list []int)) api.Code {
	c := NewCrowd()
	var lists [Sorts][]int
	for sort, n := range count {
		if n > 0 {
			lists[sort] = c.Come(sort, n)
			order(lists[sort])
		}
	}
	for sort, list := range lists {
		if len(list) > 0 {
			c.Leave(sort, list)
		}
	}
	return c.Code
}

// AsTheyCame leaves a list in its order.
func AsTheyCame(list []int) {}

// ByTurns puts a list in another order: the first, the last, the second ..
func ByTurns(list []int) {
	came := slices.Clone(list)
	for k := range list {
		list[k] = came[k/2]
		if k%2 == 1 {
			list[k] = came[len(came)-1-k/2]
		}
	}
}
