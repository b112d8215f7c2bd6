package alloc

import (
	"slices"
	"sync"
	"testing"

	"lathe/api"
	"lathe/ir"
	"lathe/samples"
)

// TestCodeStays: rule 3, what both calls are given is not changed, its spare room neither; what they answer is their caller's: whatever
// becomes of it is seen neither in the argument nor in another answer.
func TestCodeStays(t *testing.T) {
	g := &samples.Grower{Source: 41}
	for i := range 2000 {
		c := g.SingleCode(30 + i%5*60)
		if i%2 == 0 {
			c = g.Merged(c, 1+g.Below(40))
		}
		holdOwn(t, c)
	}
}

// holdOwn: rule 3 of code.
func holdOwn(t *testing.T, c api.Code) {
	t.Helper()
	handed := samples.RoomyCode(c)
	before := samples.OpenedCode(handed)
	d := allocated(t, handed)
	want := samples.CloneCode(d)
	other := allocated(t, handed)
	samples.RuinCode(d)
	holdPressureOwn(t, handed)
	if !ir.Equal(samples.OpenedCode(handed), before) {
		t.Fatalf("%s was changed", samples.Show(c))
	}
	if again := allocated(t, handed); !ir.Equal(other, want) || !ir.Equal(again, want) {
		t.Fatalf("%s became another code", samples.Show(c))
	}
	samples.RuinCode(handed)
	if !ir.Equal(other, want) {
		t.Fatalf("%s was kept", samples.Show(c))
	}
}

// holdPressureOwn: rule 3, the list that Pressure answers is its caller's.
func holdPressureOwn(t *testing.T, c api.Code) {
	t.Helper()
	n, w, list, _ := Pressure(c)
	want := slices.Clone(list)
	_, _, other, _ := Pressure(c)
	for k := range list[:cap(list)] {
		list[:cap(list)][k] = -7
	}
	if again, whole, vectors, e := Pressure(c); again != n || whole != w || !slices.Equal(vectors, want) || !slices.Equal(other, want) || e != api.OK {
		t.Fatalf("Pressure = %d, %d, %v, %d, was %d, %d, %v: %s", again, whole, vectors, e, n, w, want, samples.Show(c))
	}
}

// TestItselfStays: rule 3, code that stays as it is, is answered in memory of its own too.
func TestItselfStays(t *testing.T) {
	for _, c := range []api.Code{{Sign: usual("").Sign, Slots: usual("").Slots}, {Regs: []api.Type{{Kind: 2}}, List: read("Whole N3; When; Inc; End")}} {
		if d := allocated(t, c); !ir.Equal(d, c) {
			t.Errorf("%s became %s", samples.Show(c), samples.Show(d))
		}
		holdOwn(t, c)
	}
}

// TestRefusedStays: rules 2 and 3, code that is refused, as it is not well formed or would be too much, is not changed.
func TestRefusedStays(t *testing.T) {
	for _, c := range []api.Code{usual("Grad D9; Load D4 N1; When A4; Out A9; End; Loop; Neg D8 A9"), samples.Straight([samples.Sorts]int{5000}, samples.AsTheyCame), filled(samples.Straight([samples.Sorts]int{17}, samples.AsTheyCame), maxCode)} {
		c = samples.RoomyCode(c)
		before := samples.OpenedCode(c)
		if _, e := Alloc(c); e == api.OK {
			t.Errorf("%s was taken", samples.Show(c))
		}
		Pressure(c)
		if !ir.Equal(samples.OpenedCode(c), before) {
			t.Errorf("%s", samples.Show(c))
		}
	}
}

// TestListsApart: rule 3, what is put to a list of an answer is seen in no other, nor in the argument.
func TestListsApart(t *testing.T) {
	for _, c := range []api.Code{usual("Grad D9; Load D10 N2; Number D0; Add D11 A10 B9; Store A11 N2; Out A11"), samples.Straight([samples.Sorts]int{20, 20, 20}, samples.AsTheyCame)} {
		c := samples.RoomyCode(c)
		before := samples.OpenedCode(c)
		d := allocated(t, c)
		want := samples.CloneCode(d)
		_ = append(d.Sign, api.Param{Name: "more"})
		_ = append(d.Regs, api.Type{Kind: 77})
		_ = append(d.Slots, api.Slot{Int: 77})
		_ = append(d.List, api.Inst{Op: 77})
		if !ir.Equal(d, want) || !ir.Equal(samples.OpenedCode(c), before) {
			t.Errorf("%s, %s", samples.Show(c), samples.Show(d))
		}
	}
}

// TestSideBySide: rule 4, calls at the same time answer what they answer by themselves.
func TestSideBySide(t *testing.T) {
	g := &samples.Grower{Source: 42}
	var group sync.WaitGroup
	for n := range 30 {
		c := g.SingleCode(300)
		if n%2 == 0 {
			c = g.Merged(c, 1+g.Below(40))
		}
		want, pressure := allocated(t, c), pressureOf(c)
		for range 4 {
			group.Go(func() {
				for range 10 {
					if d, e := Alloc(c); e != api.OK || !ir.Equal(d, want) || !slices.Equal(pressureOf(c), pressure) {
						t.Errorf("%s became another code, %d", samples.Show(c), e)
					}
				}
			})
		}
	}
	group.Wait()
}
