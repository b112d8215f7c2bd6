package opt

import (
	"sync"
	"testing"

	"lathe/api"
	"lathe/ir"
	"lathe/samples"
)

// holdOwn: rule 3 of code and each choice of the passes: what Run is given is not changed, its spare room neither, and not kept; what it answers
// is its caller's: whatever becomes of it is seen neither in the argument nor in another answer.
func holdOwn(t *testing.T, c api.Code) {
	t.Helper()
	for choice := range subsets {
		handed := samples.RoomyCode(c)
		before := samples.OpenedCode(handed)
		d := ran(t, handed, choice)
		want := samples.CloneCode(d)
		other := ran(t, handed, choice)
		samples.RuinCode(d)
		if !ir.Equal(samples.OpenedCode(handed), before) {
			t.Fatalf("passes %d: %s was changed", choice, samples.Show(c))
		}
		if again := ran(t, handed, choice); !ir.Equal(other, want) || !ir.Equal(again, want) {
			t.Fatalf("passes %d: %s became another code", choice, samples.Show(c))
		}
		samples.RuinCode(handed)
		if !ir.Equal(other, want) {
			t.Fatalf("passes %d: %s was kept", choice, samples.Show(c))
		}
	}
}

// TestCodeStays: rule 3, codes from all over.
func TestCodeStays(t *testing.T) {
	g := &samples.Grower{Source: 41}
	for i := range 300 {
		c := g.SingleCode(40 + i%4*20)
		switch i % 3 {
		case 1:
			c = g.Merged(c, 1+g.Below(20))
		case 2:
			c = g.Looped(c)
		}
		holdOwn(t, c)
	}
}

// TestItselfStays: rule 3 and OP2, code that stays as it is, without passes or as there is nothing for them to do, is answered in memory of its
// own too.
func TestItselfStays(t *testing.T) {
	v := api.Type{Kind: 3}
	c := api.Code{
		Sign: []api.Param{{Name: "w", Kind: 1, Len: 2}}, Regs: []api.Type{v, v}, Slots: []api.Slot{{Type: v, Keep: true}},
		List: read("Loop; Grad D0; Load D1; Add D0 A0 B1; Store A0; Out A0; Next"),
	}
	for choice := range subsets {
		if d := ran(t, c, choice); !ir.Equal(c, d) {
			t.Errorf("passes %d: %s", choice, samples.Show(d))
		}
	}
	holdOwn(t, c)
	for _, c := range []api.Code{{}, {Sign: usual("").Sign}, usual(""), usual(each), samples.EveryOp(), half(t), samples.Straight([samples.Sorts]int{20, 20, 20, 20, 20}, samples.AsTheyCame)} {
		holdOwn(t, c)
	}
}

// TestRefusedStays: rules 2 and 3, code that is refused, whatever the error, is not changed.
func TestRefusedStays(t *testing.T) {
	for _, c := range []api.Code{
		usual("Grad D9; Load D4 N1; When A4; Out A9; End; Loop; Neg D8 A9"), samples.Straight([samples.Sorts]int{0, 0, 5000}, samples.AsTheyCame), filled(sources, "Out A8", maxCode), usual(each),
	} {
		c = samples.RoomyCode(c)
		before := samples.OpenedCode(c)
		for _, choice := range []int{-1, 0, passAlloc, 31, 32} {
			if d, e := Run(c, choice); e != api.OK && !isNothing(d) {
				t.Errorf("passes %d: %s beside %d", choice, samples.Show(d), e)
			}
			if !ir.Equal(samples.OpenedCode(c), before) {
				t.Errorf("passes %d: %s was changed", choice, samples.Show(c))
			}
		}
	}
}

// TestListsApart: rule 3, what is put to a list of an answer is seen in no other, nor in the argument.
func TestListsApart(t *testing.T) {
	for choice := range subsets {
		for _, c := range []api.Code{usual(each), samples.EveryOp(), samples.Straight([samples.Sorts]int{20, 20, 20}, samples.AsTheyCame)} {
			c = samples.RoomyCode(c)
			before := samples.OpenedCode(c)
			d := ran(t, c, choice)
			want := samples.CloneCode(d)
			_ = append(d.Sign, api.Param{Name: "more"})
			_ = append(d.Regs, api.Type{Kind: 77})
			_ = append(d.Slots, api.Slot{Int: 77})
			_ = append(d.List, api.Inst{Op: 77})
			if !ir.Equal(d, want) || !ir.Equal(samples.OpenedCode(c), before) {
				t.Errorf("passes %d: %s, %s", choice, samples.Show(c), samples.Show(d))
			}
		}
	}
}

// TestOneCall: rule 4, what is answered hangs on the arguments alone, not on the calls ahead: in one order and in another, and behind errors.
func TestOneCall(t *testing.T) {
	g := &samples.Grower{Source: 43}
	codes := []api.Code{usual(each), samples.EveryOp(), usual("End")}
	for range 20 {
		codes = append(codes, g.Code(60), g.SingleCode(60))
	}
	var want []answer
	for _, c := range codes {
		for choice := -1; choice <= subsets; choice++ {
			d, e := Run(c, choice)
			want = append(want, answer{d, e})
		}
	}
	for n := len(want) - 1; n >= 0; n-- {
		d, e := Run(codes[n/34], n%34-1)
		if e != want[n].err || !ir.Equal(d, want[n].code) {
			t.Fatalf("passes %d: %d, %s", n%34-1, e, samples.Show(codes[n/34]))
		}
	}
}

// TestSideBySide: rule 4, calls at the same time answer what they answer by themselves.
func TestSideBySide(t *testing.T) {
	g := &samples.Grower{Source: 42}
	var group sync.WaitGroup
	for n := range 16 {
		c := g.SingleCode(200)
		if n%2 == 0 {
			c = g.Merged(c, 1+g.Below(40))
		}
		want := behind(c)
		for choice := range subsets {
			group.Go(func() {
				for range 4 {
					if d, e := Run(c, choice); e != api.OK || !ir.Equal(d, want[choice].code) {
						t.Errorf("passes %d: %s became another code, %d", choice, samples.Show(c), e)
					}
				}
			})
		}
	}
	group.Wait()
}
