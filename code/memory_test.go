package code

import (
	"strings"
	"sync"
	"testing"
	"unsafe"

	"lathe/api"
	"lathe/ir"
	"lathe/samples"
)

// TestCodeStays: rule 3, what Encode is given is not changed, its spare room neither, and what stands there is not told.
func TestCodeStays(t *testing.T) {
	g := &samples.Grower{Source: 41}
	for range 3000 {
		c := samples.RoomyCode(g.Code(40))
		before := samples.OpenedCode(c)
		want := wantBytes(c)
		b := encoded(t, c)
		if !ir.Equal(samples.OpenedCode(c), before) {
			t.Fatalf("%s was changed", samples.Show(c))
		}
		samples.RuinCode(c)
		if b != want {
			t.Fatalf("%s became %s", short(want), short(b))
		}
	}
	for _, c := range samples.Broken() {
		c = samples.RoomyCode(c)
		before := samples.OpenedCode(c)
		if b, e := Encode(c); b != "" || e == api.OK || !ir.Equal(samples.OpenedCode(c), before) {
			t.Errorf("%s was changed", samples.Show(c))
		}
	}
}

// within tells whether a text shares memory with another one.
func within(part, whole string) bool {
	if part == "" || whole == "" {
		return false
	}
	first, begin := uintptr(unsafe.Pointer(unsafe.StringData(part))), uintptr(unsafe.Pointer(unsafe.StringData(whole)))
	return first < begin+uintptr(len(whole)) && begin < first+uintptr(len(part))
}

// TestNamesAreNew: rule 3, a name that Decode tells is in memory of its own, not in that of the bytes or of another answer.
func TestNamesAreNew(t *testing.T) {
	b := strings.Clone(encoded(t, api.Code{Sign: many(maxParams, 1)}))
	c, _, _ := Decode(b)
	d, _, _ := Decode(b)
	for n := range c.Sign {
		name := c.Sign[n].Name
		if within(name, b) {
			t.Errorf("the name %q stands in the bytes", name)
		}
		for k := range d.Sign {
			if within(name, d.Sign[k].Name) || k != n && within(name, c.Sign[k].Name) {
				t.Errorf("the name %q stands in another one", name)
			}
		}
	}
}

// TestBytesAreNew: rule 3, bytes that Encode tells are not those of another answer, nor of the code's names.
func TestBytesAreNew(t *testing.T) {
	for _, c := range several() {
		b, other := encoded(t, c), encoded(t, c)
		if within(b, other) {
			t.Errorf("two answers share memory: %s", short(b))
		}
		for _, p := range c.Sign {
			if within(p.Name, b) {
				t.Errorf("the name %q stands in the bytes", p.Name)
			}
		}
	}
}

// TestAnswersAreTheirCallers: rules 3 and 4, whatever becomes of an answer of Decode is not seen in another one, nor in one that comes later.
func TestAnswersAreTheirCallers(t *testing.T) {
	g := &samples.Grower{Source: 42}
	for range 2000 {
		c := g.Code(40)
		b := encoded(t, c)
		first, _, _ := Decode(b)
		second, _, _ := Decode(b)
		samples.RuinCode(first)
		if third, _, _ := Decode(b); !ir.Equal(second, c) || !ir.Equal(third, c) {
			t.Fatalf("%s became %s, %s", samples.Show(c), samples.Show(second), samples.Show(third))
		}
		_ = append(second.Sign, api.Param{Name: "more"})
		_ = append(second.Regs, api.Type{Kind: 77})
		_ = append(second.Slots, api.Slot{Int: 77})
		_ = append(second.List, api.Inst{Op: 77})
		if !ir.Equal(second, c) || encoded(t, second) != b {
			t.Fatalf("%s became %s", samples.Show(c), samples.Show(second))
		}
	}
}

// TestNilIsEmpty: rule 3, code with empty lists and code without lists have the same bytes.
func TestNilIsEmpty(t *testing.T) {
	holdTaken(t, made("00 00 00 00"), api.Code{})
	holdTaken(t, made("00 00 00 00"), api.Code{Sign: []api.Param{}, Regs: []api.Type{}, Slots: []api.Slot{}, List: []api.Inst{}})
}

// TestNothingIsKept: rule 4, a call answers the same again, whatever came ahead of it.
func TestNothingIsKept(t *testing.T) {
	c := samples.EveryOp()
	b := wantBytes(c)
	g := &samples.Grower{Source: 43}
	for range 1000 {
		other := encoded(t, g.Code(20))
		Decode(mixed(g, other, b))
		Decode(sealed(mixed(g, b, other)))
		Encode(api.Code{List: samples.Read("End")})
		Print(other)
		holdTaken(t, b, c)
		holdRefused(t, b[:40], errCut, 40)
		holdPrint(t, "123456789", 0x995DC9BBDF1939FA)
	}
}

// TestSideBySide: rule 4, calls at the same time answer what they answer by themselves.
func TestSideBySide(t *testing.T) {
	g := &samples.Grower{Source: 44}
	var group sync.WaitGroup
	for range 20 {
		c := g.Code(60)
		b := wantBytes(c)
		wrong := mixed(g, b, wantBytes(samples.EveryOp()))
		for range 4 {
			group.Go(func() {
				for range 20 {
					holdTaken(t, b, c)
					hold(t, wrong)
					holdPrint(t, wrong, library(wrong))
				}
			})
		}
	}
	group.Wait()
}
