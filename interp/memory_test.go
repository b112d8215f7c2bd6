package interp

import (
	"slices"
	"sync"
	"testing"

	"lathe/api"
	"lathe/ir"
	"lathe/samples"
)

// TestCodeStays: IN1 and rule 3, what New is given is not changed, and later changes of it are not seen.
func TestCodeStays(t *testing.T) {
	g := &samples.Grower{Source: 31}
	for range 1500 {
		c := g.Code(50)
		handed := samples.RoomyCode(c)
		before := samples.OpenedCode(handed)
		r, w := begin(t, handed), wordsOf(c)
		holdStep(t, r, w, g.Vectors(c.Sign), g.Vectors(c.Sign))
		if !ir.Equal(samples.OpenedCode(handed), before) {
			t.Errorf("%s was changed", samples.Show(c))
		}
		other, v := r.Clone(), w.clone()
		samples.RuinCode(handed)
		for range 3 {
			holdStep(t, r, w, g.Vectors(c.Sign), g.Vectors(c.Sign))
			holdStep(t, other, v, g.Vectors(c.Sign), g.Vectors(c.Sign))
		}
	}
}

// TestChangesAreNotSeen: IN1, each part of the code that is changed behind New.
func TestChangesAreNotSeen(t *testing.T) {
	for _, change := range []func(c *api.Code){
		func(c *api.Code) { c.Sign[0].Len = 1 },
		func(c *api.Code) { c.Sign[1].Kind = 1 },
		func(c *api.Code) { c.Sign[2] = api.Param{} },
		func(c *api.Code) { c.Regs[8] = numberType() },
		func(c *api.Code) { c.Slots[5].Bits = three },
		func(c *api.Code) { c.Slots[6].Keep = true },
		func(c *api.Code) { c.Slots[1].Keep = false },
		func(c *api.Code) { c.List[0].Op = api.OpParam },
		func(c *api.Code) { c.List[1].A = 9 },
		func(c *api.Code) { c.List[2].N = 0 },
	} {
		c := usual("Grad D8; Out A8; Load D4 N1; Inc D4 A4; Store A4 N1; Load D5 N6; Inc D5 A5; Store A5 N6; Load D0 N5; Store A0 N0; Number D0; Store A0 N5; Grad D12 N1; Out A12")
		r := begin(t, c)
		change(&c)
		for step := range 3 {
			u := stepped(t, r, usualGrads(), usualParams())
			if want := [][]api.F{{one, two, three}, {half, 0, minus, 0}, {0}}; !same(u, want) {
				t.Errorf("%08x, want %08x", u, want)
			}
			holdSlot(t, r, 1, nil, step+1)
			holdSlot(t, r, 6, nil, 10)
			holdSlot(t, r, 0, []api.F{minus}, 0)
		}
	}
}

// TestVectorsStay: rule 3, what Step is given is neither changed nor kept, its spare room neither.
func TestVectorsStay(t *testing.T) {
	g := &samples.Grower{Source: 32}
	for range 1500 {
		c := g.Code(50)
		r, w := begin(t, c), wordsOf(c)
		for range 3 {
			grads, params := samples.RoomyVectors(g.Vectors(c.Sign)), samples.RoomyVectors(g.Vectors(c.Sign))
			before := samples.OpenedVectors(grads) + samples.OpenedVectors(params)
			holdStep(t, r, w, grads, params)
			if samples.OpenedVectors(grads)+samples.OpenedVectors(params) != before {
				t.Errorf("%s changed what it was given", samples.Show(c))
			}
			samples.RuinVectors(grads)
			samples.RuinVectors(params)
			holdSlots(t, r, w.slots)
		}
	}
}

// TestSameVectorTwice: rule 3, gradients and parameters may be the same memory, and so may two gradients.
func TestSameVectorTwice(t *testing.T) {
	c := api.Code{Sign: []api.Param{{Name: "w", Kind: 1, Len: 2}, {Name: "z", Kind: 2, Len: 1}}, Regs: []api.Type{vectorType(0), vectorType(0), vectorType(1)}}
	c.Slots = []api.Slot{{Type: vectorType(0), Keep: true}}
	c.List = read("Grad D0; Param D1; Add D0 A0 B1; Load D1; Add D0 A0 B1; Store A0; Out A0; Grad D2 N1; Out A2; Param D2; Out A2 N1")
	r, w := begin(t, c), wordsOf(c)
	v := []api.F{three, half}
	for range 3 {
		holdStep(t, r, w, [][]api.F{v, v}, [][]api.F{v, v})
		if !slices.Equal(v, []api.F{three, half}) {
			t.Fatalf("%08x", v)
		}
	}
}

// TestUpdatesAreTheCallers: rule 3, what Step answered may be written over, spare room too; no two vectors of it share any, nor do they
// with slots that hold the same numbers.
func TestUpdatesAreTheCallers(t *testing.T) {
	g := &samples.Grower{Source: 33}
	for range 1500 {
		c := g.Code(50)
		r, w := begin(t, c), wordsOf(c)
		for range 3 {
			grads, params := g.Vectors(c.Sign), g.Vectors(c.Sign)
			other := r.Clone()
			before := samples.OpenedVectors(grads) + samples.OpenedVectors(params)
			u, want := stepped(t, r, grads, params), w.step(grads, params)
			for p := range u {
				if !slices.Equal(u[p], want[p]) { // the ones ahead of it have been written over
					t.Errorf("%08x, want %08x: %s", u, want, samples.Show(c))
				}
				samples.Ruin(u[p], 0xdeadbeef)
			}
			if samples.OpenedVectors(grads)+samples.OpenedVectors(params) != before {
				t.Errorf("the updates share memory with what was given: %s", samples.Show(c))
			}
			holdSlots(t, r, w.slots)
			if v := stepped(t, other, grads, params); !same(v, want) {
				t.Errorf("the clone's %08x, want %08x: %s", v, want, samples.Show(c))
			}
		}
	}
	r := begin(t, usual("Grad D8; Store A8 N2; Store A8 N7; Out A8; Copy D9 A8; Out A9; Load D12 N8; Out A12; Out A12 N1; Load D16 N9; Out A16"))
	for range 3 {
		samples.RuinVectors(stepped(t, r, usualGrads(), usualParams()))
		holdSlot(t, r, 2, []api.F{one, two, three}, 0)
		holdSlot(t, r, 7, []api.F{one, two, three}, 0)
		holdSlot(t, r, 8, []api.F{0xff800000, 0xff800000}, 0)
		holdSlot(t, r, 9, []api.F{two}, 0)
	}
}

// TestSlotsAreTheCallers: IN3 and rule 3, what Slot answered may be written over, spare room too: neither the run nor a clone sees it.
func TestSlotsAreTheCallers(t *testing.T) {
	g := &samples.Grower{Source: 34}
	for range 1500 {
		c := g.Code(50)
		r, w := begin(t, c), wordsOf(c)
		for range 3 {
			other, v := r.Clone(), w.clone()
			for n := range c.Slots {
				for range 2 {
					a, _, _ := r.Slot(n)
					samples.Ruin(a, 0xdeadbeef)
					_ = append(a, 0xdeadbeef)
				}
			}
			holdSlots(t, r, w.slots)
			holdSlots(t, other, v.slots)
			grads, params := g.Vectors(c.Sign), g.Vectors(c.Sign)
			holdStep(t, r, w, grads, params)
			holdStep(t, other, v, grads, params)
		}
	}
}

// TestSlotsOfOneVector: rule 3, slots that were stored from one register are apart.
func TestSlotsOfOneVector(t *testing.T) {
	c := usual("Grad D8; Store A8 N2; Store A8 N7; Load D9 N10; Copy D10 A8; Store A10 N10; Add D9 A9 B8; Out A9")
	c.Slots = append(c.Slots, api.Slot{Type: vectorType(0), Keep: true})
	r := begin(t, c)
	stepped(t, r, usualGrads(), usualParams())
	a, _, _ := r.Slot(2)
	samples.Ruin(a, 0xdeadbeef)
	for _, n := range []int{2, 7, 10} {
		holdSlot(t, r, n, []api.F{one, two, three}, 0)
	}
	grads := usualGrads()
	grads[0] = []api.F{four, four, four}
	if u := stepped(t, r, grads, usualParams()); !slices.Equal(u[0], []api.F{five, six, 0x40e00000}) {
		t.Errorf("%08x", u)
	}
}

// TestClone: IN1, a clone ahead of all steps, between them, of a clone; behind it neither goes on with the other.
func TestClone(t *testing.T) {
	g := &samples.Grower{Source: 35}
	for range 800 {
		c := g.Code(50)
		r, w := begin(t, c), wordsOf(c)
		for range g.Below(4) {
			holdStep(t, r, w, g.Vectors(c.Sign), g.Vectors(c.Sign))
		}
		other, v := r.Clone(), w.clone()
		if other == r {
			t.Fatal("a clone is the run itself")
		}
		holdSlots(t, other, v.slots)
		for range 3 { // now one, now the other
			holdStep(t, r, w, g.Vectors(c.Sign), g.Vectors(c.Sign))
			holdSlots(t, other, v.slots)
			holdStep(t, other, v, g.Vectors(c.Sign), g.Vectors(c.Sign))
			holdSlots(t, r, w.slots)
		}
		third, x := other.Clone(), v.clone()
		for range 2 {
			holdStep(t, third, x, g.Vectors(c.Sign), g.Vectors(c.Sign))
			holdStep(t, r, w, g.Vectors(c.Sign), g.Vectors(c.Sign))
		}
		holdSlots(t, other, v.slots)
		for _, bad := range misfits(g, c.Sign) {
			holdInput(t, third, bad, bad)
		}
		holdSlots(t, third, x.slots)
	}
}

// TestSideBySide: rule 4, runs and clones go on at the same time, each by itself.
func TestSideBySide(t *testing.T) {
	g := &samples.Grower{Source: 36}
	for range 40 {
		c := g.Code(60)
		r, w := begin(t, c), wordsOf(c)
		holdStep(t, r, w, g.Vectors(c.Sign), g.Vectors(c.Sign))
		var grads, params, want [][][]api.F
		for i := range 20 {
			grads, params = append(grads, g.Vectors(c.Sign)), append(params, g.Vectors(c.Sign))
			want = append(want, w.step(grads[i], params[i]))
		}
		var group sync.WaitGroup
		for range 4 {
			other := r.Clone()
			group.Go(func() {
				for i := range grads {
					if u, e := other.Step(grads[i], params[i]); e != api.OK || !same(u, want[i]) {
						t.Errorf("step %d: %08x, %d, want %08x: %s", i, u, e, want[i], samples.Show(c))
					}
				}
				holdSlots(t, other, w.slots)
			})
		}
		group.Wait()
	}
}
