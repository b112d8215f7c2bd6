package prune

import (
	"sync"
	"testing"

	"lathe/api"
	"lathe/ir"
	"lathe/samples"
)

// TestCodeStays: rule 3, what Prune is given is not changed, its spare room neither; what it answers is its caller's: whatever becomes of
// it is seen neither in the argument nor in another answer.
func TestCodeStays(t *testing.T) {
	g := &samples.Grower{Source: 41}
	for i := range 4000 {
		c := g.Code(40)
		if i%2 == 0 {
			c = g.SingleCode(40)
		}
		if i%4 < 2 {
			c = quiet(g, c)
		}
		handed := samples.RoomyCode(c)
		before := samples.OpenedCode(handed)
		d := pruned(t, handed)
		want := samples.CloneCode(d)
		other := pruned(t, handed)
		samples.RuinCode(d)
		if !ir.Equal(samples.OpenedCode(handed), before) {
			t.Fatalf("%s was changed", samples.Show(c))
		}
		if again := pruned(t, handed); !ir.Equal(other, want) || !ir.Equal(again, want) {
			t.Fatalf("%s became another code", samples.Show(c))
		}
		samples.RuinCode(handed)
		if !ir.Equal(other, want) {
			t.Fatalf("%s was kept", samples.Show(c))
		}
	}
}

// TestPrunedTwice: rule 3, code that stays as it is, is answered in memory of its own too.
func TestPrunedTwice(t *testing.T) {
	c := pruned(t, usual("Grad D8; Load D9 N2; Add D10 A8 B9; Store A10 N2; Out A10"))
	d := pruned(t, c)
	e := pruned(t, d)
	want := samples.CloneCode(c)
	samples.RuinCode(d)
	if !ir.Equal(c, want) || !ir.Equal(e, want) {
		t.Errorf("%s, %s", samples.Show(c), samples.Show(e))
	}
	samples.RuinCode(e)
	if !ir.Equal(c, want) {
		t.Errorf("%s", samples.Show(c))
	}
}

// TestRefusedStays: rules 2 and 3, code that is refused is not changed.
func TestRefusedStays(t *testing.T) {
	c := samples.RoomyCode(usual("Grad D9; Load D4 N1; When A4; Out A9; End; End"))
	before := samples.OpenedCode(c)
	holdRefused(t, c)
	if !ir.Equal(samples.OpenedCode(c), before) {
		t.Errorf("%s", samples.Show(c))
	}
}

// TestListsApart: rule 3, what is put to a list of an answer is seen in no other, nor in the argument.
func TestListsApart(t *testing.T) {
	c := samples.RoomyCode(usual("Grad D9; Load D10 N2; Add D11 A10 B9; Store A11 N2; Out A11"))
	before := samples.OpenedCode(c)
	d := pruned(t, c)
	want := samples.CloneCode(d)
	_ = append(d.Sign, api.Param{Name: "more"})
	_ = append(d.Regs, api.Type{Kind: 77})
	_ = append(d.Slots, api.Slot{Int: 77})
	_ = append(d.List, api.Inst{Op: 77})
	if !ir.Equal(d, want) || !ir.Equal(samples.OpenedCode(c), before) {
		t.Errorf("%s, %s", samples.Show(c), samples.Show(d))
	}
}

// TestSideBySide: rule 4, calls at the same time answer what they answer by themselves.
func TestSideBySide(t *testing.T) {
	g := &samples.Grower{Source: 42}
	var group sync.WaitGroup
	for range 30 {
		c := quiet(g, g.Code(80))
		want := pruned(t, c)
		for range 4 {
			group.Go(func() {
				for range 20 {
					if d, e := Prune(c); e != api.OK || !ir.Equal(d, want) {
						t.Errorf("%s became another code, %d", samples.Show(c), e)
					}
				}
			})
		}
	}
	group.Wait()
}
