package opt

import (
	"slices"
	"sync"
	"testing"

	"lathe/api"
	"lathe/interp"
	"lathe/ir"
	"lathe/samples"
)

// holdErrors: OP1 and rule 2, of well formed code each choice of the passes has the error that is wanted of it, and nothing beside it; where
// none is wanted, OP1 to OP4, in one step. What has an error is what the passes have, called one behind the other. The code may be long, so
// the choices are tried side by side.
func holdErrors(t *testing.T, c api.Code, want func(choice int) api.Errno) {
	t.Helper()
	if e, at := ir.Check(c); e != api.OK {
		t.Fatalf("ir.Check = %d at %d", e, at)
	}
	list := vectorsOf(&samples.Grower{Source: 4}, c.Sign)
	updates, _ := running(t, c).Step(list, list)
	var group sync.WaitGroup
	for choice, by := range behind(c) {
		group.Go(func() {
			d, e := Run(c, choice)
			if e != want(choice) || e != by.err || e != api.OK && !isNothing(d) {
				t.Errorf("passes %d: %s, %d, want %d, the passes answer %d", choice, samples.Show(d), e, want(choice), by.err)
			}
			if e != api.OK {
				return
			}
			if wrong := fault(c, d, choice, by); wrong != "" {
				t.Errorf("passes %d: %s: %s became %s", choice, wrong, samples.Show(c), samples.Show(d))
			}
			if r, e := interp.New(d); e == api.OK {
				if u, e := r.Step(list, list); e != api.OK || !same(u, updates) {
					t.Errorf("passes %d: other updates: %s became %s", choice, samples.Show(c), samples.Show(d))
				}
			}
		})
	}
	group.Wait()
}

// never is no error with any choice.
func never(choice int) api.Errno { return api.OK }

// only is an error with all choices that have those passes, and have none of the others.
func only(e api.Errno, with, without int) func(choice int) api.Errno {
	return func(choice int) api.Errno {
		if choice&with == with && choice&without == 0 {
			return e
		}
		return api.OK
	}
}

// out hands a number out as an update, so that it is needed.
func out(c *samples.Crowd, number int) {
	c.List = append(c.List, api.Inst{Op: 31, A: c.Set(2, "Copy", number)})
}

// subbed is a number out of all of these and one that a slot keeps.
func subbed(c *samples.Crowd, list []int) int {
	into := c.Load(0)
	for _, register := range list {
		into = c.Set(0, "Sub", register, into)
	}
	return into
}

// TestTooManySlots: OP1, far more vectors alive than can wait in slots, whatever is done ahead of alloc.
func TestTooManySlots(t *testing.T) {
	for _, sort := range []int{2, 3} {
		count := [samples.Sorts]int{}
		count[sort] = 8 + maxSlots - 1
		holdErrors(t, samples.Straight(count, slices.Reverse[[]int]), only(errSlots, passAlloc, passPrune)) // prune leaves one of the slots
		count[sort]++
		holdErrors(t, samples.Straight(count, slices.Reverse[[]int]), only(errSlots, passAlloc, 0))
	}
}

// TestTooManyUnneeded: OP1, far more numbers alive than can wait in slots, on which no update hangs: behind prune there is nothing to be
// told. So where slots that nothing needs leave no room for one more.
func TestTooManyUnneeded(t *testing.T) {
	holdErrors(t, samples.Straight([samples.Sorts]int{5000}, samples.AsTheyCame), only(errSlots, passAlloc, passPrune))
	for sort := 2; sort < samples.Sorts; sort++ {
		count := [samples.Sorts]int{}
		count[sort] = 9
		c := samples.Straight(count, samples.AsTheyCame)
		for n := len(c.Slots); n < maxSlots; n++ {
			c.Slots = append(c.Slots, api.Slot{Type: samples.TypeOf(n % samples.Sorts), Keep: n%7 < 3})
		}
		holdErrors(t, c, only(errSlots, passAlloc, passPrune))
	}
}

// TestTooManyTwins: OP1, far more numbers alive than can wait in slots, which are all the same: behind reuse there is nothing to be told.
func TestTooManyTwins(t *testing.T) {
	c := samples.NewCrowd()
	first := c.Load(0)
	var list []int
	for range 5000 {
		list = append(list, c.Set(0, "Add", first, first))
	}
	out(c, subbed(c, list))
	holdErrors(t, c.Code, only(errSlots, passAlloc, passReuse))
}

// TestTooManyConstants: OP1, far more numbers alive than can wait in slots, which hang on constants alone: behind fold they are made again
// where they are read, and there is nothing to be told.
func TestTooManyConstants(t *testing.T) {
	c := samples.NewCrowd()
	one := c.Set(0, "Number =3f800000")
	list := []int{one}
	for range 5000 {
		list = append(list, c.Set(0, "Add", one, list[len(list)-1]))
	}
	out(c, subbed(c, list))
	holdErrors(t, c.Code, only(errSlots, passAlloc, passFold))
}

// TestTooLong: OP1, code so long that alloc has no room, whatever is done ahead of it; and where prune makes room.
func TestTooLong(t *testing.T) {
	for _, count := range [][samples.Sorts]int{{0, 0, 9}, {0, 0, 0, 9}} {
		c := samples.Straight(count, samples.AsTheyCame)
		needed := c
		needed.List = slices.Concat(c.List, slices.Repeat(c.List[len(c.List)-1:], maxCode-len(c.List)-1)) // one update again and again
		holdErrors(t, needed, only(errSize, passAlloc, 0))
		unneeded := c
		unneeded.Regs = append(slices.Clone(c.Regs), api.Type{Kind: 2})
		unneeded.List = slices.Concat(c.List, slices.Repeat([]api.Inst{{Op: 2, D: len(c.Regs), N: 3}}, maxCode-len(c.List)-1))
		holdErrors(t, unneeded, only(errSize, passAlloc, passPrune))
	}
}

// TestTooLongFused: OP1, code that has room for what alloc puts to it, but not for the marks of a loop too: ErrSize behind fuse alone.
func TestTooLongFused(t *testing.T) {
	c := samples.Straight([samples.Sorts]int{0, 0, 9}, samples.AsTheyCame)
	last := c.List[len(c.List)-1:]
	for _, x := range []struct {
		length int
		want   func(choice int) api.Errno
	}{
		{maxCode - 4, never}, {maxCode - 3, only(errSize, passAlloc+passFuse, 0)}, {maxCode - 2, only(errSize, passAlloc+passFuse, 0)}, {maxCode - 1, only(errSize, passAlloc, 0)},
	} {
		c.List = slices.Concat(c.List, slices.Repeat(last, x.length-len(c.List)))
		holdErrors(t, c, x.want)
	}
}

// TestBothTooMuch: OP1 and rule 2, too many slots and too many instructions: what alloc tells, behind whatever passes.
func TestBothTooMuch(t *testing.T) {
	for _, x := range []struct {
		count int
		want  api.Errno
	}{{8 + maxSlots, errSlots}, {2000, errSize}} {
		c := samples.Straight([samples.Sorts]int{0, 0, x.count}, samples.AsTheyCame)
		c.List = slices.Concat(c.List, slices.Repeat(c.List[len(c.List)-1:], maxCode-len(c.List)))
		holdErrors(t, c, only(x.want, passAlloc, 0))
	}
}

// TestManyRegisters: OP1, code with as many registers as may be: none is mentioned, each is, each is alive at once.
func TestManyRegisters(t *testing.T) {
	for sort, name := range map[int]string{0: "Sub", 1: "Minus", 3: "Sub"} {
		c := samples.NewCrowd()
		c.Regs = slices.Repeat([]api.Type{samples.TypeOf(sort)}, maxRegs)
		holdErrors(t, c.Code, never)
		c = samples.NewCrowd()
		last := c.Load(sort)
		for len(c.Regs) < maxRegs {
			last = c.More(sort, last)
		}
		c.Leave(sort, []int{last})
		holdErrors(t, c.Code, never)
		c = samples.NewCrowd()
		list := c.Come(sort, maxRegs-1)
		into := c.Set(sort, name, list[0], list[0])
		for _, register := range list[:maxCode-maxRegs-1] { // they set one register again and again, as there is no other
			c.List = append(c.List, api.Inst{Op: read(name)[0].Op, D: into, A: register, B: into})
		}
		if sort < 2 {
			holdErrors(t, c.Code, only(errSlots, passAlloc, passPrune)) // no update hangs on them
			continue
		}
		c.List = append(c.List, api.Inst{Op: 31, A: into})
		holdErrors(t, c.Code, only(errSlots, passAlloc, 0))
	}
}
