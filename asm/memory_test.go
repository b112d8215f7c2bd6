package asm

import (
	"strings"
	"sync"
	"testing"
	"unsafe"

	"lathe/api"
	"lathe/ir"
	"lathe/samples"
)

// TestCodeStays: rule 3, what Text is given is not changed, its spare room neither, and what stands there is not told.
func TestCodeStays(t *testing.T) {
	g := &samples.Grower{Source: 41}
	for range 3000 {
		c := samples.RoomyCode(g.Code(40))
		before := samples.OpenedCode(c)
		want := wantText(c)
		text := told(t, c)
		if !ir.Equal(samples.OpenedCode(c), before) {
			t.Fatalf("%s was changed", samples.Show(c))
		}
		samples.RuinCode(c)
		if text != want {
			t.Fatalf("%s became %s", short(want), short(text))
		}
	}
	for _, c := range samples.Broken() {
		c = samples.RoomyCode(c)
		before := samples.OpenedCode(c)
		holdNoText(t, c)
		if !ir.Equal(samples.OpenedCode(c), before) {
			t.Errorf("%s was changed", samples.Show(c))
		}
	}
}

// within tells whether a text shares memory with another one.
func within(part, whole string) bool {
	if part == "" || whole == "" {
		return false
	}
	first, begin := uintptr(unsafe.Pointer(unsafe.StringData(part))), uintptr(unsafe.Pointer(unsafe.StringData(whole)))
	return first < begin+uintptr(len(whole)) && begin < first+uintptr(len(part))
}

// TestNamesAreNew: rule 3, a name that Parse tells is in memory of its own, not in that of the text or of another answer.
func TestNamesAreNew(t *testing.T) {
	text := strings.Clone(wantText(api.Code{Sign: many(maxParams, 1)}))
	c, _, _ := Parse(text)
	d, _, _ := Parse(text)
	if len(c.Sign) != maxParams {
		t.Fatalf("%d parameters", len(c.Sign))
	}
	for n := range c.Sign {
		name := c.Sign[n].Name
		if within(name, text) {
			t.Errorf("the name %q stands in the text", name)
		}
		for k := range d.Sign {
			if within(name, d.Sign[k].Name) || k != n && within(name, c.Sign[k].Name) {
				t.Errorf("the name %q stands in another one", name)
			}
		}
	}
}

// TestTextsAreNew: rule 3, a text that Text tells is not that of another answer, nor has it the memory of the code's names.
func TestTextsAreNew(t *testing.T) {
	for _, c := range []api.Code{{}, usual(""), samples.EveryOp(), {Sign: many(maxParams, 1)}} {
		text, other := told(t, c), told(t, c)
		if within(text, other) {
			t.Errorf("two answers share memory: %s", short(text))
		}
		for _, p := range c.Sign {
			if within(p.Name, text) {
				t.Errorf("the name %q stands in the text", p.Name)
			}
		}
	}
}

// TestAnswersAreTheirCallers: rules 3 and 4, whatever becomes of an answer of Parse is not seen in another one, nor in one that comes later.
func TestAnswersAreTheirCallers(t *testing.T) {
	g := &samples.Grower{Source: 42}
	for range 2000 {
		c := g.Code(40)
		text := told(t, c)
		first, _, _ := Parse(text)
		second, _, _ := Parse(text)
		samples.RuinCode(first)
		if third, _, _ := Parse(text); !ir.Equal(second, c) || !ir.Equal(third, c) {
			t.Fatalf("%s became %s, %s", samples.Show(c), samples.Show(second), samples.Show(third))
		}
		_ = append(second.Sign, api.Param{Name: "more"})
		_ = append(second.Regs, api.Type{Kind: 77})
		_ = append(second.Slots, api.Slot{Int: 77})
		_ = append(second.List, api.Inst{Op: 77})
		if !ir.Equal(second, c) || told(t, second) != text {
			t.Fatalf("%s became %s", samples.Show(c), samples.Show(second))
		}
	}
}

// TestNothingIsKept: rule 4, a call answers the same again, whatever came ahead of it.
func TestNothingIsKept(t *testing.T) {
	c := samples.EveryOp()
	text := wantText(c)
	g := &samples.Grower{Source: 43}
	for range 1000 {
		Parse(mixed(g, text, wantText(g.Code(20))))
		Text(api.Code{List: samples.Read("End")})
		told(t, g.Code(20))
		holdTaken(t, text, c)
		holdRefused(t, text+"fly\n", errLine, 72)
		holdRefused(t, text+"end\n", errCode, 72)
	}
}

// TestSideBySide: rule 4, calls at the same time answer what they answer by themselves.
func TestSideBySide(t *testing.T) {
	g := &samples.Grower{Source: 44}
	var group sync.WaitGroup
	for range 20 {
		c := g.Code(60)
		text := wantText(c)
		wrong := mixed(g, text, wantText(samples.EveryOp()))
		for range 4 {
			group.Go(func() {
				for range 20 {
					holdTaken(t, text, c)
					hold(t, wrong)
				}
			})
		}
	}
	group.Wait()
}
