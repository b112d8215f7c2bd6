package code

import (
	"testing"

	"lathe/api"
	"lathe/samples"
)

// flipped is bytes with the bits of a pattern changed, from a bit on (in a byte the lowest first). Those beyond the end are left out.
func flipped(b string, bit int, pattern uint64) string {
	changed := []byte(b)
	for k := range 64 {
		if at := bit + k; pattern>>k&1 == 1 && at < 8*len(b) {
			changed[at/8] ^= 1 << (at % 8)
		}
	}
	return string(changed)
}

// holdDamaged: CO4 and rule 2, these bytes are refused.
func holdDamaged(t *testing.T, b string) {
	t.Helper()
	if c, e, _ := Decode(b); e == api.OK || !isNone(c) {
		t.Errorf("Decode(%s) = %s, %d", short(b), samples.Show(c), e)
	}
}

// TestNearBits: CO4, each bit of bytecode changed, and each two within 64 that follow one another.
func TestNearBits(t *testing.T) {
	for _, c := range several() {
		b := encoded(t, c)
		for bit := range 8 * len(b) {
			holdDamaged(t, flipped(b, bit, 1))
			if len(b) > 40 && bit%13 > 0 {
				continue
			}
			for k := 1; k < 64 && bit+k < 8*len(b); k++ {
				holdDamaged(t, flipped(b, bit, 1|1<<k))
			}
		}
	}
}

// TestAllNarrow: CO4, every change within twelve bits that follow one another.
func TestAllNarrow(t *testing.T) {
	for _, c := range []api.Code{{}, {Sign: usual("").Sign[:1]}, {Regs: []api.Type{{Kind: 2}}, Slots: []api.Slot{{Type: api.Type{Kind: 2}}}, List: samples.Read("Load; When; End")}} {
		b := encoded(t, c)
		for bit := range 8 * len(b) {
			for pattern := uint64(1); pattern < 1<<12; pattern += 2 { // those that leave the first bit alone begin at another one
				holdDamaged(t, flipped(b, bit, pattern))
			}
		}
	}
}

// TestWide: CO4, changes from all over within 64 bits, from each bit on; whole bytes changed, up to eight.
func TestWide(t *testing.T) {
	g := &samples.Grower{Source: 11}
	for _, c := range several() {
		b := encoded(t, c)
		for bit := range 8 * len(b) {
			for range 24 {
				pattern := uint64(g.Next())<<32 | uint64(g.Next())
				switch g.Below(4) {
				case 0:
					pattern &= uint64(g.Next())<<32 | uint64(g.Next())
				case 1:
					pattern = ^uint64(0) >> g.Below(64)
				}
				holdDamaged(t, flipped(b, bit, pattern|1))
			}
		}
	}
}

// TestOtherBytes: CO4, eight bytes of bytecode, or fewer, written over by those that stand elsewhere in it or in another one.
func TestOtherBytes(t *testing.T) {
	g := &samples.Grower{Source: 12}
	list := several()
	for range 60000 {
		b, other := encoded(t, list[g.Below(len(list))]), encoded(t, list[g.Below(len(list))])
		size := 1 + g.Below(8)
		at, from := g.Below(len(b)-size+1), g.Below(len(other)-size+1)
		changed := b[:at] + other[from:from+size] + b[at+size:]
		if changed != b {
			holdDamaged(t, changed)
		}
	}
}

// TestEveryChange: CO4, all 2^64 changes of 64 bits that follow one another, without trying them: what bits change in the fingerprint, and in
// itself, they change each by itself, and the changes of 64 that follow one another hang together in no way. So no change is without one.
func TestEveryChange(t *testing.T) {
	for _, size := range []int{8, 9, 20, 300} {
		zero := string(make([]byte, size))
		var shows []uint64
		for bit := range 8 * size {
			shows = append(shows, Print(flipped(zero, bit, 1))^Print(zero))
		}
		for k := range 64 {
			shows = append(shows, 1<<k)
		}
		for first := 0; first+64 <= len(shows); first++ {
			if !isFree(shows[first : first+64]) {
				t.Fatalf("%d bytes: from the bit %d on", size, first)
			}
		}
		g := &samples.Grower{Source: 13}
		for range 1000 {
			x, y := flipped(zero, 0, 0), flipped(zero, 0, 0)
			for range 10 {
				x, y = flipped(x, g.Below(8*size), uint64(g.Next())), flipped(y, g.Below(8*size), uint64(g.Next()))
			}
			both := []byte(x)
			for k := range both {
				both[k] ^= y[k]
			}
			if Print(x)^Print(y)^Print(string(both)) != Print(zero) {
				t.Fatalf("%s, %s", short(x), short(y))
			}
		}
	}
}

// isFree tells whether no choice of the patterns, but that of none, is 0 when they are xored.
func isFree(list []uint64) bool {
	var highest [64]uint64
	for _, x := range list {
		for k := 63; k >= 0 && x != 0; k-- {
			if x>>k&1 == 0 {
				continue
			}
			if highest[k] == 0 {
				highest[k] = x
				break
			}
			x ^= highest[k]
		}
		if x == 0 {
			return false
		}
	}
	return true
}

// TestCutOff: CO4, every cutting off, at the end and at the beginning.
func TestCutOff(t *testing.T) {
	g := &samples.Grower{Source: 14}
	list := several()
	for range 100 {
		list = append(list, g.Code(60))
	}
	for _, c := range list {
		b := encoded(t, c)
		for size := range len(b) {
			if d, e, _ := Decode(b[:size]); e != errCut || !isNone(d) {
				t.Errorf("Decode(%s) = %s, %d", short(b[:size]), samples.Show(d), e)
			}
			if size > 0 {
				holdDamaged(t, b[size:])
			}
		}
	}
}
