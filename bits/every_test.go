package bits

import (
	"math"
	"sync"
	"testing"

	"lathe/api"
)

// TestOrderOfEdges: B6, of two in the order the first one has the lesser Key.
func TestOrderOfEdges(t *testing.T) {
	all := edges()
	for i, first := range all {
		for _, second := range all[i+1:] {
			x, okX := Key(first.a)
			y, okY := Key(second.a)
			if !okX || !okY || x >= y {
				t.Errorf("Key(%08x) = %d, %v, Key(%08x) = %d, %v", first.a, x, okX, second.a, y, okY)
			}
		}
	}
}

// TestSpread: B1 to B6 of patterns from all over, and of those about each exponent's ends.
func TestSpread(t *testing.T) {
	for a := uint64(0); a < 1<<32; a += 9973 {
		holdAll(t, api.F(a))
	}
	for top := range api.F(512) {
		for low := range api.F(4) {
			holdAll(t, top<<23+low)
			holdAll(t, top<<23-1-low)
			holdAll(t, top<<23+1<<22-2+low)
		}
	}
	for place := range 32 {
		holdAll(t, 1<<place)
		holdAll(t, ^api.F(1<<place))
	}
}

func holdAll(t *testing.T, a api.F) {
	t.Helper()
	if got := Class(a); got != classByValue(a) {
		t.Errorf("Class(%08x) = %d, want %d", a, got, classByValue(a))
	}
	minus, exponent, fraction := Parts(a)
	if got, err := Make(minus, exponent, fraction); got != a || err != api.OK {
		t.Errorf("Make of Parts of %08x = %08x, %d", a, got, err)
	}
	if got, ok := Read(Hex(a)); got != a || !ok {
		t.Errorf("Read of Hex of %08x = %08x, %v", a, got, ok)
	}
	holdCanon(t, a)
	holdOrder(t, a)
}

func holdCanon(t *testing.T, a api.F) {
	t.Helper()
	want := a
	if classByValue(a) == NotNumber {
		want = 0x7fc00000
	}
	if got := Canon(a); got != want {
		t.Errorf("Canon(%08x) = %08x, want %08x", a, got, want)
	}
}

// holdOrder holds a against its neighbour above, by Key and by value.
func holdOrder(t *testing.T, a api.F) {
	t.Helper()
	if classByValue(a) == NotNumber || a == 0x7f800000 {
		return
	}
	next := Next(a)
	if got := Prev(next); got != a {
		t.Errorf("Prev of Next of %08x = %08x", a, got)
	}
	x, okX := Key(a)
	y, okY := Key(next)
	if !okX || !okY || y != x+1 {
		t.Errorf("Key(%08x) = %d, %v, Key(%08x) = %d, %v", a, x, okX, next, y, okY)
	}
	noughts := a == 0x80000000 && next == 0
	if !noughts && !(math.Float32frombits(uint32(a)) < math.Float32frombits(uint32(next))) {
		t.Errorf("Next(%08x) = %08x is not above it", a, next)
	}
}

// classByValue asks the value, where Class asks the bits.
func classByValue(a api.F) int {
	x := math.Abs(float64(math.Float32frombits(uint32(a))))
	switch {
	case math.IsNaN(x):
		return NotNumber
	case math.IsInf(x, 0):
		return Infinite
	case x >= 0x1p-126:
		return Normal
	case x > 0:
		return Subnormal
	}
	return Nought
}

// TestEveryPattern: B6, how many patterns are no NaN; Key knows the same ones.
func TestEveryPattern(t *testing.T) {
	if testing.Short() {
		t.Skip("goes through all 2^32 patterns")
	}
	const workers = 64
	var counts [workers]int
	var group sync.WaitGroup
	for w := range workers {
		group.Go(func() { counts[w] = countNumbers(t, uint64(w)<<26, uint64(w+1)<<26) })
	}
	group.Wait()
	total := 0
	for _, n := range counts {
		total += n
	}
	if total != 1<<32-1<<24+2 {
		t.Errorf("%d patterns are no NaN", total)
	}
}

// countNumbers stops at the first fault, for the next ones would be of the same kind.
func countNumbers(t *testing.T, from, to uint64) int {
	n := 0
	for i := from; i < to; i++ {
		a := api.F(i)
		number := Class(a) != NotNumber
		if _, ok := Key(a); ok != number {
			t.Errorf("Key(%08x) and Class do not agree", a)
			return n
		}
		if number {
			n++
		}
	}
	return n
}
