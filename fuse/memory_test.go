package fuse

import (
	"slices"
	"sync"
	"testing"

	"lathe/api"
	"lathe/ir"
	"lathe/samples"
)

// TestCodeStays: rule 3, what Fuse is given is not changed, its spare room neither; what it answers is its caller's: whatever becomes of it
// is seen neither in the argument nor in another answer.
func TestCodeStays(t *testing.T) {
	g := &samples.Grower{Source: 41}
	for i := range 4000 {
		c := g.Code(40)
		if i%2 == 0 {
			c = g.SingleCode(40)
		}
		if i%4 < 2 {
			c = g.Looped(c)
		}
		holdOwn(t, c)
	}
}

// holdOwn: rule 3 of code.
func holdOwn(t *testing.T, c api.Code) {
	t.Helper()
	handed := samples.RoomyCode(c)
	before := samples.OpenedCode(handed)
	d := fused(t, handed)
	want := samples.CloneCode(d)
	other := fused(t, handed)
	samples.RuinCode(d)
	if !ir.Equal(samples.OpenedCode(handed), before) {
		t.Fatalf("%s was changed", samples.Show(c))
	}
	if again := fused(t, handed); !ir.Equal(other, want) || !ir.Equal(again, want) {
		t.Fatalf("%s became another code", samples.Show(c))
	}
	samples.RuinCode(handed)
	if !ir.Equal(other, want) {
		t.Fatalf("%s was kept", samples.Show(c))
	}
}

// TestItselfStays: rule 3 and FU4, code that stays as it is, as there is nothing to do or no room for it, is answered in memory of its own
// too.
func TestItselfStays(t *testing.T) {
	for _, c := range []api.Code{
		usual("Loop; Grad D8; Out A8; Next"), usual("Number D0; Store A0"), usual("Load D4 N1; When A4; Number D0; Store A0; End"), tooLong(),
	} {
		if d := fused(t, c); !ir.Equal(d, c) {
			t.Errorf("%s became %s", samples.Show(c), samples.Show(d))
		}
		holdOwn(t, c)
	}
}

// tooLong is code as long as may be, in which nothing can be looped without more instructions.
func tooLong() api.Code {
	c := usual("")
	c.List = slices.Repeat(read("Number D0; Copy D8 A0"), maxCode/2)
	return c
}

// TestRefusedStays: rules 2 and 3, code that is refused is not changed.
func TestRefusedStays(t *testing.T) {
	c := samples.RoomyCode(usual("Grad D9; Load D4 N1; When A4; Out A9; End; Loop; Neg D8 A9"))
	before := samples.OpenedCode(c)
	holdRefused(t, c)
	if !ir.Equal(samples.OpenedCode(c), before) {
		t.Errorf("%s", samples.Show(c))
	}
}

// TestListsApart: rule 3, what is put to a list of an answer is seen in no other, nor in the argument.
func TestListsApart(t *testing.T) {
	for _, text := range []string{"Grad D9; Load D10 N2; Number D0; Add D11 A10 B9; Store A11 N2; Out A11", "Loop; Grad D8; Out A8; Next"} {
		c := samples.RoomyCode(usual(text))
		before := samples.OpenedCode(c)
		d := fused(t, c)
		want := samples.CloneCode(d)
		_ = append(d.Sign, api.Param{Name: "more"})
		_ = append(d.Regs, api.Type{Kind: 77})
		_ = append(d.Slots, api.Slot{Int: 77})
		_ = append(d.List, api.Inst{Op: 77})
		if !ir.Equal(d, want) || !ir.Equal(samples.OpenedCode(c), before) {
			t.Errorf("%s, %s", samples.Show(c), samples.Show(d))
		}
	}
}

// TestSideBySide: rule 4, calls at the same time answer what they answer by themselves.
func TestSideBySide(t *testing.T) {
	g := &samples.Grower{Source: 42}
	var group sync.WaitGroup
	for range 30 {
		c := g.Looped(g.Code(80))
		want := fused(t, c)
		for range 4 {
			group.Go(func() {
				for range 20 {
					if d, e := Fuse(c); e != api.OK || !ir.Equal(d, want) {
						t.Errorf("%s became another code, %d", samples.Show(c), e)
					}
				}
			})
		}
	}
	group.Wait()
}
