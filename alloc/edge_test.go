package alloc

import (
	"testing"

	"lathe/alike"
	"lathe/api"
	"lathe/samples"
)

// TestEveryEdge: RA2 and P12, every edge and every kind of NaN as gradient and as parameter, with each other, step after step, while they
// wait in slots and are read again, in blocks and loops too: what is told stays the same, bit for bit.
func TestEveryEdge(t *testing.T) {
	edges := append(samples.Edges(), samples.NaNs()...)
	for _, name := range []string{"Copy", "Neg", "Abs", "Sqrt", "Finite", "Add", "Sub", "Mul", "Div", "Min", "Max", "Less", "Select"} {
		for _, isLooped := range []bool{false, true} {
			c := edgy(name, isLooped)
			c.Sign[0].Len = len(edges)
			d := holdForm(t, c)
			if slots, _ := added(c, d); slots < 10 {
				t.Errorf("%d slots more", slots)
			}
			p, wrong := alike.New(c, d, alike.Every(c))
			for turn := range edges {
				if wrong != "" {
					t.Fatal(wrong)
				}
				turned := append(append([]api.F{}, edges[turn:]...), edges[:turn]...)
				z := []api.F{edges[turn], turned[1], turned[2], edges[0]}
				wrong = p.Step([][]api.F{edges, z, turned[:1]}, [][]api.F{turned, z, turned[1:2]})
			}
		}
	}
}

// edgy is code that makes many vectors of the gradient, the parameter and a kept vector, by one instruction, and hands them out; numbers of
// them too, in a block that hangs on one.
func edgy(name string, isLooped bool) api.Code {
	c := newCrowd()
	if isLooped {
		c.loop(2)
	}
	list := []int{c.Set(2, "Grad"), c.Set(2, "Param"), c.Load(2)}
	for n := range 20 {
		reads := []int{list[n], list[n+1], list[n+2]}
		switch {
		case name == "Select":
		case samples.Read(name)[0].Op >= 11 || name == "Copy":
			reads = reads[:1]
		default:
			reads = reads[:2]
		}
		list = append(list, c.Set(2, name, reads...))
	}
	if isLooped {
		c.Put("Next")
	}
	var numbers []int
	for _, register := range list {
		numbers = append(numbers, c.Set(0, "Least", register))
	}
	c.when(c.Set(1, "Test", numbers[3]))
	c.Leave(2, list[2:])
	c.Put("End")
	c.Leave(0, numbers)
	c.Leave(2, list)
	for _, register := range list {
		c.List = append(c.List, api.Inst{Op: 33, A: register, N: 7}, api.Inst{Op: 31, A: register})
	}
	return c.Code
}

// TestEveryWhole: RA2, whole numbers from 0 to the greatest wait in slots and are read again.
func TestEveryWhole(t *testing.T) {
	for _, n := range []int{0, 1, 2, 1<<31 - 3, 1<<31 - 2, 1<<31 - 1} {
		c := samples.Straight([samples.Sorts]int{0, 60}, samples.ByTurns)
		c.Slots[1].Int = n
		hold(t, &samples.Grower{Source: 26}, c)
	}
}
