package ir

import (
	"fmt"
	"slices"
	"strings"
	"sync"
	"testing"
	"unsafe"

	"lathe/api"
	"lathe/samples"
)

// roomy is the list in memory of its own, with something in the spare room behind it.
func roomy[T any](list []T, room ...T) []T {
	return append(slices.Clone(list), room...)[:len(list)]
}

func roomyCode(c api.Code) api.Code {
	c.Sign, c.Regs = roomy(c.Sign, api.Param{Name: "w", Kind: 9}), roomy(c.Regs, api.Type{Kind: 9}, numberType())
	c.Slots, c.List = roomy(c.Slots, api.Slot{Int: -1}), roomy(c.List, api.Inst{Op: 99}, api.Inst{Op: api.OpEnd})
	for i := range c.Sign {
		c.Sign[i].Name = strings.Clone(c.Sign[i].Name)
	}
	return c
}

// opened is a code as a text, its spare room too.
func opened(c api.Code) string {
	return fmt.Sprint(c, c.Sign[:cap(c.Sign)], c.Regs[:cap(c.Regs)], c.Slots[:cap(c.Slots)], c.List[:cap(c.List)])
}

// TestArgumentsStay: rule 3, no argument is changed, neither is its spare room, and what stands there is not asked.
func TestArgumentsStay(t *testing.T) {
	g := &grower{samples.Source(167)}
	for i := range 3000 {
		c := g.code(30)
		if i%3 == 0 {
			g.harm(&c)
		}
		c = roomyCode(c)
		other := roomyCode(c)
		before := opened(c)
		holdWords(t, c)
		if !Equal(c, other) {
			t.Errorf("%s is not Equal to its copy", show(c))
		}
		if opened(c) != before || opened(other) != before {
			t.Errorf("%s was changed", show(c))
		}
	}
}

// TestReadsAreTheirCallers: rule 3, what Reads tells is new memory each time, spare room too.
func TestReadsAreTheirCallers(t *testing.T) {
	for _, op := range ops() {
		i := api.Inst{Op: op, D: 1, A: 2, B: 3, C: 4, N: 5}
		first, second := Reads(i), Reads(i)
		if cap(first) > 0 && unsafe.SliceData(first) == unsafe.SliceData(second) {
			t.Errorf("two answers of %s share memory", names()[op-1])
		}
		first = first[:cap(first)]
		for k := range first {
			first[k] = -99
		}
		if !slices.Equal(second, wantReads(i)) || !slices.Equal(Reads(i), wantReads(i)) {
			t.Errorf("Reads of %s has become %v", names()[op-1], second)
		}
		all := append(Reads(i), 7)
		if !slices.Equal(all[:len(all)-1], wantReads(i)) || !slices.Equal(Reads(i), wantReads(i)) {
			t.Errorf("Reads of %s has become %v", names()[op-1], all)
		}
	}
}

// TestNothingIsKept: rules 3 and 4, a call answers the same again, whatever came ahead of it.
func TestNothingIsKept(t *testing.T) {
	good, _ := behind("When A2; Loop; Neg D4 A5; Next; End; Out A4")
	bad := usual(read("Neg D0 A1")...)
	g := &grower{samples.Source(168)}
	for range 500 {
		c := g.code(20)
		g.harm(&c)
		_, _ = Check(c)
		_, _ = Kept(c)
		holdCheck(t, good, api.OK, 0)
		holdCheck(t, bad, errCode, 0)
		holdKept(t, good, 3, 5)
	}
	open, _ := behind("When A2; Number D0")
	_, _ = Check(open)
	holdCheck(t, usual(read("End")...), errCode, 0)
	changed := copyOf(good)
	holdCheck(t, changed, api.OK, 0)
	changed.Regs[4] = numberType()
	holdCheck(t, changed, errCode, 4)
	changed.Sign[0].Len = 9
	holdKept(t, changed, 3, 11)
	holdCheck(t, good, api.OK, 0)
}

// TestSideBySide: rule 4, calls that go on at the same time answer as they do alone.
func TestSideBySide(t *testing.T) {
	good, _ := behind("When A2; Loop; Neg D4 A5; Next; End; Out A4")
	var all sync.WaitGroup
	for range 8 {
		all.Go(func() {
			for range 200 {
				holdCheck(t, good, api.OK, 0)
				holdCheck(t, usual(read("Number D0; Neg D0 A1")...), errCode, 1)
				holdKept(t, good, 3, 5)
				holdInst(t, api.Inst{Op: api.OpSelect, A: 3, B: 4, C: 5})
			}
		})
	}
	all.Wait()
}
