package bits

import (
	"strings"
	"testing"

	"lathe/api"
)

// TestHex: B5, a NaN's bits as they stand.
func TestHex(t *testing.T) {
	for _, e := range append(edges(), nans()...) {
		if got := Hex(e.a); got != e.hex {
			t.Errorf("Hex(%08x) = %q, want %q", e.a, got, e.hex)
		}
	}
	for a, want := range map[uint32]string{0x01234567: "01234567", 0x89abcdef: "89abcdef", 0xfedcba98: "fedcba98"} {
		if got := Hex(api.F(a)); got != want {
			t.Errorf("Hex(%08x) = %q", a, got)
		}
	}
}

// TestRead: B5, a NaN's bits as they stand.
func TestRead(t *testing.T) {
	for _, e := range append(edges(), nans()...) {
		if got, ok := Read(e.hex); got != e.a || !ok {
			t.Errorf("Read(%q) = %08x, %v", e.hex, got, ok)
		}
	}
	for s, want := range map[string]uint32{"01234567": 0x01234567, "89abcdef": 0x89abcdef, "fedcba98": 0xfedcba98} {
		if got, ok := Read(s); got != api.F(want) || !ok {
			t.Errorf("Read(%q) = %08x, %v", s, got, ok)
		}
	}
}

// TestReadRefusesLengths: B5, texts that are shorter or longer than eight signs.
func TestReadRefusesLengths(t *testing.T) {
	for _, s := range []string{
		"", "0", "1", "3f80000", "3f8000000", "3f800000 ", " 3f800000", "3f800000\n", "3f800000\x00",
		"0x3f800000", "+3f800000", "00000000000000003f800000", strings.Repeat("0", 7),
		strings.Repeat("0", 9), strings.Repeat("f", 16), strings.Repeat("0", 1<<20),
	} {
		refused(t, s)
	}
}

// TestReadRefusesGreatLetters: B5.
func TestReadRefusesGreatLetters(t *testing.T) {
	for _, s := range []string{"3F800000", "7FC00000", "ABCDEF01", "fffffffF", "Ffffffff", "abcDef01"} {
		refused(t, s)
	}
}

// TestReadRefusesSigns: B5, each byte but a digit at each place, and texts that other readers take.
func TestReadRefusesSigns(t *testing.T) {
	for place := range 8 {
		for c := range 256 {
			if strings.IndexByte("0123456789abcdef", byte(c)) >= 0 {
				continue
			}
			s := []byte("3f800000")
			s[place] = byte(c)
			refused(t, string(s))
		}
	}
	for _, s := range []string{"0x3f8000", "-1234567", "+1234567", "1_000_00", "1.000000", "é800000", "３f80", "\xff\xfe3f8000"} {
		refused(t, s)
	}
}

func refused(t *testing.T, s string) {
	t.Helper()
	if got, ok := Read(s); got != 0 || ok {
		t.Errorf("Read(%.40q) = %08x, %v, want 0, false", s, got, ok)
	}
}
