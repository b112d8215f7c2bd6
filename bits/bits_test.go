package bits

import (
	"math"
	"testing"

	"lathe/api"
)

// An edge is a pattern that the chapter names, with all that is told of it.
type edge struct {
	a        api.F
	class    int
	minus    bool
	exponent int
	fraction int
	key      int
	hex      string
}

// edges are in the order, no NaN among them.
func edges() []edge {
	return []edge{
		{0xff800000, Infinite, true, 255, 0, -0x7f800001, "ff800000"},
		{0xff7fffff, Normal, true, 254, 0x7fffff, -0x7f800000, "ff7fffff"},
		{0xbf800000, Normal, true, 127, 0, -0x3f800001, "bf800000"},
		{0x80800001, Normal, true, 1, 1, -0x00800002, "80800001"},
		{0x80800000, Normal, true, 1, 0, -0x00800001, "80800000"},
		{0x807fffff, Subnormal, true, 0, 0x7fffff, -0x00800000, "807fffff"},
		{0x80000002, Subnormal, true, 0, 2, -3, "80000002"},
		{0x80000001, Subnormal, true, 0, 1, -2, "80000001"},
		{0x80000000, Nought, true, 0, 0, -1, "80000000"},
		{0x00000000, Nought, false, 0, 0, 0, "00000000"},
		{0x00000001, Subnormal, false, 0, 1, 1, "00000001"},
		{0x00000002, Subnormal, false, 0, 2, 2, "00000002"},
		{0x00400000, Subnormal, false, 0, 0x400000, 0x00400000, "00400000"},
		{0x007fffff, Subnormal, false, 0, 0x7fffff, 0x007fffff, "007fffff"},
		{0x00800000, Normal, false, 1, 0, 0x00800000, "00800000"},
		{0x3f000000, Normal, false, 126, 0, 0x3f000000, "3f000000"},
		{0x3f800000, Normal, false, 127, 0, 0x3f800000, "3f800000"},
		{0x40490fdb, Normal, false, 128, 0x490fdb, 0x40490fdb, "40490fdb"},
		{0x7f7fffff, Normal, false, 254, 0x7fffff, 0x7f7fffff, "7f7fffff"},
		{0x7f800000, Infinite, false, 255, 0, 0x7f800000, "7f800000"},
	}
}

// nans are of both signs, quiet ones and others.
func nans() []edge {
	return []edge{
		{0x7f800001, NotNumber, false, 255, 1, 0, "7f800001"},
		{0x7fbfffff, NotNumber, false, 255, 0x3fffff, 0, "7fbfffff"},
		{0x7fc00000, NotNumber, false, 255, 0x400000, 0, "7fc00000"},
		{0x7fc00001, NotNumber, false, 255, 0x400001, 0, "7fc00001"},
		{0x7fffffff, NotNumber, false, 255, 0x7fffff, 0, "7fffffff"},
		{0xff800001, NotNumber, true, 255, 1, 0, "ff800001"},
		{0xffc00000, NotNumber, true, 255, 0x400000, 0, "ffc00000"},
		{0xffabcdef, NotNumber, true, 255, 0x2bcdef, 0, "ffabcdef"},
		{0xffffffff, NotNumber, true, 255, 0x7fffff, 0, "ffffffff"},
	}
}

// TestClassNumbers: the chapter's section 'Words' gives the classes their numbers.
func TestClassNumbers(t *testing.T) {
	got := [5]int{Nought, Subnormal, Normal, Infinite, NotNumber}
	if got != [5]int{1, 2, 3, 4, 5} {
		t.Errorf("the classes are %v", got)
	}
}

// TestClass: B1.
func TestClass(t *testing.T) {
	for _, e := range append(edges(), nans()...) {
		if got := Class(e.a); got != e.class {
			t.Errorf("Class(%08x) = %d, want %d", e.a, got, e.class)
		}
	}
}

// TestCanon: B1.
func TestCanon(t *testing.T) {
	for _, e := range edges() {
		if got := Canon(e.a); got != e.a {
			t.Errorf("Canon(%08x) = %08x", e.a, got)
		}
	}
	for _, e := range nans() {
		if got := Canon(e.a); got != 0x7fc00000 {
			t.Errorf("Canon(%08x) = %08x, want 7fc00000", e.a, got)
		}
	}
}

// TestParts: B2.
func TestParts(t *testing.T) {
	for _, e := range append(edges(), nans()...) {
		minus, exponent, fraction := Parts(e.a)
		if minus != e.minus || exponent != e.exponent || fraction != e.fraction {
			t.Errorf("Parts(%08x) = %v, %d, %x", e.a, minus, exponent, fraction)
		}
	}
}

// TestMake: B2, a NaN's bits as they stand.
func TestMake(t *testing.T) {
	for _, e := range append(edges(), nans()...) {
		got, err := Make(e.minus, e.exponent, e.fraction)
		if got != e.a || err != api.OK {
			t.Errorf("Make(%v, %d, %x) = %08x, %d, want %08x", e.minus, e.exponent, e.fraction, got, err, e.a)
		}
	}
}

// TestMakeRefuses: B2, parts that are out of range by one, by far, and by so much that their low bits would fit.
func TestMakeRefuses(t *testing.T) {
	wrong := [][2]int{
		{-1, 0}, {256, 0}, {0, -1}, {0, 1 << 23}, {255, 1 << 23}, {256, 1 << 23}, {-1, -1},
		{256, 5}, {127, -1}, {-128, 1}, {127, 1<<23 + 1}, {127, 1 << 31}, {511, 0}, {-256, 0},
		{math.MinInt, 0}, {math.MaxInt, 0}, {0, math.MinInt}, {0, math.MaxInt},
		{math.MinInt, math.MinInt}, {math.MaxInt, math.MaxInt},
		{1 << 32, 0}, {1<<32 + 127, 0}, {0, 1 << 32}, {0, 1<<32 + 1},
	}
	for _, w := range wrong {
		for _, minus := range []bool{false, true} {
			if got, err := Make(minus, w[0], w[1]); got != 0 || err != api.ErrArg {
				t.Errorf("Make(%v, %d, %d) = %08x, %d, want 0, ErrArg", minus, w[0], w[1], got, err)
			}
		}
	}
}

// TestKey: B3.
func TestKey(t *testing.T) {
	for _, e := range edges() {
		if got, ok := Key(e.a); got != e.key || !ok {
			t.Errorf("Key(%08x) = %d, %v, want %d", e.a, got, ok, e.key)
		}
	}
	for _, e := range nans() {
		if got, ok := Key(e.a); got != 0 || ok {
			t.Errorf("Key(%08x) = %d, %v, want 0, false", e.a, got, ok)
		}
	}
}

// TestNeighbours: B4.
func TestNeighbours(t *testing.T) {
	pairs := [][2]api.F{
		{0xff800000, 0xff7fffff}, {0xff7fffff, 0xff7ffffe}, {0xbf800001, 0xbf800000},
		{0xbf800000, 0xbf7fffff}, {0x80800000, 0x807fffff}, {0x80000002, 0x80000001},
		{0x80000001, 0x80000000}, {0x80000000, 0x00000000}, {0x00000000, 0x00000001},
		{0x00000001, 0x00000002}, {0x007fffff, 0x00800000}, {0x3f7fffff, 0x3f800000},
		{0x3f800000, 0x3f800001}, {0x7f7ffffe, 0x7f7fffff}, {0x7f7fffff, 0x7f800000},
	}
	for _, p := range pairs {
		if got := Next(p[0]); got != p[1] {
			t.Errorf("Next(%08x) = %08x, want %08x", p[0], got, p[1])
		}
		if got := Prev(p[1]); got != p[0] {
			t.Errorf("Prev(%08x) = %08x, want %08x", p[1], got, p[0])
		}
	}
}

// TestNeighboursAtTheEnds: B4, where the order ends, and for what stands outside it.
func TestNeighboursAtTheEnds(t *testing.T) {
	if got := Next(0x7f800000); got != 0x7f800000 {
		t.Errorf("Next of infinity = %08x", got)
	}
	if got := Prev(0xff800000); got != 0xff800000 {
		t.Errorf("Prev of minus infinity = %08x", got)
	}
	for _, e := range nans() {
		if next, prev := Next(e.a), Prev(e.a); next != 0x7fc00000 || prev != 0x7fc00000 {
			t.Errorf("Next(%08x) = %08x, Prev = %08x, want 7fc00000", e.a, next, prev)
		}
	}
}
