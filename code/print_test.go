package code

import (
	"math/rand"
	"strings"
	"testing"
)

// slow is the fingerprint by the chapter's words, a bit after the other.
func slow(b string) uint64 {
	var c [64]bool // the lowest first
	for k := range c {
		c[k] = true
	}
	for at := range len(b) {
		for k := range 8 {
			c[k] = c[k] != (b[at]>>k&1 == 1)
		}
		for turn := 0; turn < 8; turn++ {
			odd := c[0]
			copy(c[:], c[1:])
			c[63] = false
			for k := range c {
				c[k] = c[k] != (odd && uint64(0xC96C5795D7870F42)>>k&1 == 1)
			}
		}
	}
	sum := uint64(0)
	for k := range c {
		if !c[k] {
			sum += 1 << k
		}
	}
	return sum
}

// holdPrint: CO1, the fingerprint of bytes.
func holdPrint(t *testing.T, b string, want uint64) {
	t.Helper()
	if got := Print(b); got != want {
		t.Errorf("Print(%s) = %x, want %x", short(b), got, want)
	}
}

// TestPrint: CO1, of no bytes, of the chapter's text, of each single byte, of bytes from all over.
func TestPrint(t *testing.T) {
	holdPrint(t, "", 0)
	holdPrint(t, "123456789", 0x995DC9BBDF1939FA)
	for b := range 256 {
		one := string([]byte{byte(b)})
		holdPrint(t, one, slow(one))
		holdPrint(t, one+"\x00", slow(one+"\x00"))
		holdPrint(t, "\x00"+one, slow("\x00"+one))
	}
	r := rand.New(rand.NewSource(24))
	for size := range 300 {
		b := make([]byte, size)
		r.Read(b)
		holdPrint(t, string(b), slow(string(b)))
		holdPrint(t, string(b), library(string(b)))
	}
	for size := range 100 {
		for _, b := range []string{"\x00", "\xff", "l", "\x80"} {
			holdPrint(t, strings.Repeat(b, size), slow(strings.Repeat(b, size)))
		}
	}
}

// TestPrintOfLong: CO1, of long ones, bytecode and others.
func TestPrintOfLong(t *testing.T) {
	r := rand.New(rand.NewSource(25))
	for _, size := range []int{1 << 12, 1<<16 - 1, 1 << 16, 1<<16 + 1, 1 << 20, 1 << 23} {
		b := make([]byte, size)
		holdPrint(t, string(b), library(string(b)))
		r.Read(b)
		holdPrint(t, string(b), library(string(b)))
		b[size-1] ^= 1
		holdPrint(t, string(b), library(string(b)))
	}
}

// TestPrintSeals: CO1, the last eight bytes of bytecode are the fingerprint of all ahead of them; and of bytes with their fingerprint behind
// them it is always the same.
func TestPrintSeals(t *testing.T) {
	for _, c := range several() {
		b := encoded(t, c)
		sum := Print(b[:len(b)-8])
		for k := range 8 {
			if b[len(b)-8+k] != byte(sum>>(8*k)) {
				t.Errorf("%x: %s", sum, short(b))
			}
		}
		holdPrint(t, b, 0xb66a73654282cac0)
	}
}
