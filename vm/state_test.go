package vm

import (
	"slices"
	"testing"

	"lathe/api"
	"lathe/samples"
)

// TestNoneKept: VM3, where no slot is kept, the state is empty, whatever the slots hold.
func TestNoneKept(t *testing.T) {
	c := usual("Number D0 =40400000; Store A0 N5; Whole D4 N7; Store A4 N6; Grad D8; Store A8 N7; Load D9 N7; Out A9")
	for n := range c.Slots {
		c.Slots[n].Keep = false
	}
	for _, c := range []api.Code{c, {}, {Sign: c.Sign}, {Slots: []api.Slot{{Type: wholeType(), Int: 9}, {Type: numberType(), Bits: one}}}} {
		m := begin(t, c)
		for range 3 {
			holdState(t, m)
			if m.Set(nil) != api.OK || m.Set([]uint32{}) != api.OK {
				t.Error("the empty state is refused")
			}
			for _, state := range [][]uint32{{0}, {0, 0}, make([]uint32, 8), make([]uint32, 1<<16)} {
				holdRefused(t, m, state)
			}
			if c.Sign != nil {
				stepped(t, m, usualGrads(), usualParams())
			}
		}
	}
}

// TestBeginning: VM3, ahead of the first step each kept slot holds its Bits (Int) everywhere: of every type, over parameters real, complex
// and of length 1; those that are not kept are not told.
func TestBeginning(t *testing.T) {
	holdState(t, begin(t, usual("")), 0, 0, 0, 0, 0, 0, 0, 0)
	c := api.Code{Sign: []api.Param{{Name: "a", Kind: 2, Len: 4096}, {Name: "b", Kind: 1, Len: 1}, {Name: "c", Kind: 1, Len: 5}}}
	var want []uint32
	for _, a := range canonical() {
		c.Slots = append(c.Slots, api.Slot{Type: numberType(), Bits: 5}, api.Slot{Type: numberType(), Keep: true, Bits: a}, api.Slot{Type: vectorType(0), Keep: true, Bits: a})
		c.Slots = append(c.Slots, api.Slot{Type: vectorType(1), Keep: true, Bits: a}, api.Slot{Type: vectorType(2), Bits: a}, api.Slot{Type: vectorType(2), Keep: true, Bits: a})
		want = append(want, slices.Repeat([]uint32{uint32(a)}, 1+4096+1+5)...)
	}
	for _, n := range wholes() {
		c.Slots = append(c.Slots, api.Slot{Type: wholeType(), Keep: true, Int: n}, api.Slot{Type: wholeType(), Int: 6})
		want = append(want, uint32(n))
	}
	g := &samples.Grower{Source: 11}
	m := begin(t, c)
	for range 3 {
		holdState(t, m, want...)
		holdState(t, m.Clone(), want...)
		stepped(t, m, g.Vectors(c.Sign), g.Vectors(c.Sign))
	}
}

// TestStored: VM2 and VM3, what was stored is kept, in the slots' order, and is what was loaded from then on; so it is within a step with
// slots without Keep.
func TestStored(t *testing.T) {
	m, u := done(t, "Number D0 =40400000; Store A0; Store A0 N5; Whole D4 N7; Store A4 N1; Store A4 N6; Grad D8; Store A8 N2; Param D9; Store A9 N7; "+
		"Grad D12; Store A12 N3; Grad D13 N1; Store A13 N8; Grad D16; Store A16 N4; Param D17; Store A17 N9; "+
		"Load D10 N2; Load D11 N7; Add D10 A10 B11; Out A10; Load D14 N3; Out A14 N1; Load D15 N8; Out A15; Load D17 N9; Out A17")
	holdState(t, m, uint32(three), 7, uint32(one), uint32(two), uint32(three), uint32(four), uint32(five), uint32(six))
	if want := [][]api.F{{0, inf, three}, {half, four, minus, five}, {0x41200000}}; !same(u, want) {
		t.Errorf("%08x, want %08x", u, want)
	}
	m, _ = done(t, "Number D0 =40400000; Store A0; Number D0 =40000000; Grad D8; Store A8 N2; Neg D8 A8; Whole D4 N3; Store A4 N1; Inc D4 A4")
	holdState(t, m, uint32(three), 3, uint32(one), uint32(two), uint32(three), 0, 0, 0) // a register that is set later changes nothing in the slot
	holdNumber(t, "Number D1 =40400000; Store A1 N5; Load D0 N5; Store A0 N5; Number D1; Store A1 N5", three)
	holdVector(t, "Grad D9; Store A9 N2; Load D8 N2; Param D9; Store A9 N2; Store A8 N7", one, two, three)
	holdWhole(t, "Load D4 N6; Whole D5 N1; Store A5 N6", 9)
	holdNumber(t, "Load D0 N5", minus)
	holdVector(t, "Load D8 N7", nan, nan, nan)
	holdVector(t, "Loop; Load D8 N7; Next", nan, nan, nan)
	holdNumber(t, "Load D1 N0; Load D0 N5; Number D2 =3f800000; Store A2 N5; Store A2 N0; Add D0 A0 B1", 0)
}

// TestKept: VM2 and VM3, slots with Keep go on from step to step; those without begin anew at each, as their copies in kept ones tell.
func TestKept(t *testing.T) {
	c := usual("Number D1 =3f800000; Load D0; Add D0 A0 B1; Store A0; Load D0 N5; Add D0 A0 B1; Store A0 N5; Load D4 N6; Inc D4 A4; Store A4 N6; Load D4 N1; Inc D4 A4; Store A4 N1;" +
		"Grad D9; Load D8 N2; Add D8 A8 B9; Store A8 N2; Load D8 N7; Select D8 A8 B8 C9; Store A8 N7; Out A8;" +
		"Loop N1; Grad D13 N1; Load D12 N3; Add D12 A12 B13; Store A12 N3; Load D12 N8; Max D12 A12 B13; Store A12 N8; Out A12; Next;" +
		"Load D16 N4; Sub D16 A16 B1; Store A16 N4; Load D16 N9; Sub D16 A16 B1; Store A16 N9; Out A16; Load D5 N6; Store A5 N10; Load D0 N5; Store A0 N11")
	c.Slots = append(c.Slots, api.Slot{Type: wholeType(), Keep: true}, api.Slot{Type: numberType(), Keep: true})
	m := begin(t, c)
	counts := []api.F{one, two, three, four, five}
	for step, count := range counts {
		u := stepped(t, m, usualGrads(), usualParams())
		twice, thrice, halved := []api.F{two, four, six, 0x41000000, 0x41200000}, []api.F{three, six, 0x41100000, 0x41400000, 0x41700000}, []api.F{half, one, 0x3fc00000, two, 0x40200000}
		holdState(t, m, uint32(count), uint32(step+1), uint32(count), uint32(twice[step]), uint32(thrice[step]), uint32(halved[step]), 0, uint32(count|minus), 10, uint32(one))
		if want := [][]api.F{{one, two, three}, {half, 0, minus, 0}, {one}}; !same(u, want) {
			t.Errorf("step %d: %08x, want %08x", step, u, want)
		}
	}
}

// holdRefused: VM3 and rule 2, a state is refused whole, and the machine is as it was.
func holdRefused(t *testing.T, m *Machine, state []uint32) {
	t.Helper()
	before, spent := m.State(), m.Spent()
	if e := m.Set(state); e != errArg {
		t.Errorf("Set(%x) = %d", state[:min(len(state), 20)], e)
	}
	if !slices.Equal(m.State(), before) || m.Spent() != spent {
		t.Errorf("Set(%x) made %x of %x", state[:min(len(state), 20)], m.State(), before)
	}
}

// TestSet: VM3, of just as many numbers as are kept, any patterns, which are told canonical; whole numbers up to MaxCount.
func TestSet(t *testing.T) {
	g := &samples.Grower{Source: 12}
	m := begin(t, usual("Load D0; Load D4 N1; Inc D5 A4; Store A5 N1; Load D8 N2; Out A8; Load D12 N3; Out A12 N1; Loop N2; Load D16 N4; Out A16; Next"))
	for _, n := range wholes() {
		for _, a := range patterns() {
			state := []uint32{uint32(a), uint32(n), uint32(a), 7, uint32(g.Next()), 8, uint32(a), uint32(a)}
			if e := m.Set(state); e != api.OK {
				t.Fatalf("Set(%08x) = %d", state, e)
			}
			want := slices.Clone(state)
			for k := range want {
				if k != 1 && samples.IsNaN(api.F(want[k])) {
					want[k] = uint32(nan)
				}
			}
			holdState(t, m, want...)
			u := stepped(t, m, usualGrads(), usualParams())
			if !same(u, [][]api.F{{api.F(want[2]), 7, api.F(want[4])}, {0, 8, 0, api.F(want[6])}, {api.F(want[7])}}) {
				t.Errorf("behind Set(%08x): %08x", state, u)
			}
			want[1] = uint32(min(n+1, maxCount))
			holdState(t, m, want...)
		}
	}
}

// TestSetRefused: VM3, too few numbers, too many, whole numbers above MaxCount, wherever they stand: ErrArg, and nothing has changed, also
// not what stands ahead of what is at fault.
func TestSetRefused(t *testing.T) {
	c := usual("Load D4 N1; Inc D4 A4; Store A4 N1")
	c.Slots = append(c.Slots, api.Slot{Type: wholeType(), Keep: true, Int: 3}, api.Slot{Type: wholeType(), Int: 3}, api.Slot{Type: wholeType(), Keep: true, Int: maxCount})
	m := begin(t, c)
	for step := range uint32(3) {
		holdState(t, m, 0, step, 0, 0, 0, 0, 0, 0, 3, maxCount)
		for size := range 40 {
			if size != 10 {
				holdRefused(t, m, slices.Repeat([]uint32{1}, size))
			}
		}
		holdRefused(t, m, nil)
		holdRefused(t, m, make([]uint32, 1<<17))
		for _, place := range []int{1, 8, 9} {
			for _, whole := range []uint32{maxCount + 1, maxCount + 2, 1<<32 - 1, uint32(nan) | 1<<31} {
				state := []uint32{9, 1, 9, 9, 9, 9, 9, 9, 1, 1}
				state[place] = whole
				holdRefused(t, m, state)
				holdRefused(t, m, state[:9])
				holdRefused(t, m, append(state, 0))
			}
		}
		stepped(t, m, usualGrads(), usualParams())
	}
	for _, place := range []int{1, 8, 9} {
		state := []uint32{9, 1, 9, 9, 9, 9, 9, 9, 1, 1}
		state[place] = maxCount
		if e := m.Set(state); e != api.OK {
			t.Errorf("Set(%d) = %d", state, e)
		}
		holdState(t, m, state...)
	}
}

// TestSetState: VM4, Set of State changes nothing, ahead of steps, between and behind them; nor does asking.
func TestSetState(t *testing.T) {
	g := &samples.Grower{Source: 13}
	for range 800 {
		x := twinOf(t, g.Code(50))
		for range 4 {
			for range 1 + g.Below(3) {
				if e := x.m.Set(x.m.State()); e != api.OK {
					t.Fatalf("Set = %d: %s", e, samples.Show(x.code))
				}
				x.hold(t)
			}
			x.any(t, g)
		}
	}
}

// TestSetOfAnother: VM4, behind Set of another machine's State both go on alike: one that has done no step, or steps of its own; one of the
// same bytes that New made by itself, or a clone.
func TestSetOfAnother(t *testing.T) {
	g, kept := &samples.Grower{Source: 14}, 0
	for range 1500 {
		c := g.Code(50)
		x := twinOf(t, c)
		for range g.Below(4) {
			x.any(t, g)
		}
		other := begin(t, c)
		if g.Below(2) == 0 {
			other = x.m.Clone()
		}
		for range g.Below(3) {
			stepped(t, other, g.Vectors(c.Sign), g.Vectors(c.Sign))
		}
		kept += min(1, len(x.m.State()))
		if e := other.Set(x.m.State()); e != api.OK {
			t.Fatalf("Set = %d: %s", e, samples.Show(c))
		}
		for range 3 {
			if !slices.Equal(x.m.State(), other.State()) {
				t.Fatalf("%08x, want %08x: %s", other.State(), x.m.State(), samples.Show(c))
			}
			grads, params := g.Vectors(c.Sign), g.Vectors(c.Sign)
			want := x.step(t, grads, params)
			if u := stepped(t, other, grads, params); !same(u, want) || x.m.Spent() != other.Spent() {
				t.Fatalf("%08x, %d, want %08x, %d: %s", u, other.Spent(), want, x.m.Spent(), samples.Show(c))
			}
		}
	}
	if kept < 500 {
		t.Errorf("only %d keep anything", kept)
	}
}

// TestSetFromAllOver: VM3, states from all over are taken just where each whole number may be; what is taken is told, canonical.
func TestSetFromAllOver(t *testing.T) {
	g, taken, refused := &samples.Grower{Source: 15}, 0, 0
	for range 4000 {
		c := g.Code(20)
		m := begin(t, c)
		var state, want []uint32
		may := true
		for _, s := range c.Slots {
			if !s.Keep {
				continue
			}
			for range samples.Width(s.Type, c.Sign) {
				a := uint32(g.Pattern())
				if s.Type.Kind == api.TypeWhole && g.Below(4) > 0 {
					a = uint32(g.Whole())
				}
				state = append(state, a)
				switch {
				case s.Type.Kind == api.TypeWhole:
					may = may && a <= maxCount
				case samples.IsNaN(api.F(a)):
					a = uint32(nan)
				}
				want = append(want, a)
			}
		}
		if !may {
			refused++
			holdRefused(t, m, state)
			continue
		}
		taken++
		if e := m.Set(state); e != api.OK {
			t.Errorf("Set(%08x) = %d: %s", state, e, samples.Show(c))
		}
		holdState(t, m, want...)
		holdRefused(t, m, append(state, 0))
	}
	if min(taken, refused) < 100 {
		t.Errorf("%d were taken, %d refused", taken, refused)
	}
}
