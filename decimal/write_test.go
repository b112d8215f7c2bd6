package decimal

import (
	"math"
	"math/big"
	"strconv"
	"strings"
	"testing"

	"lathe/api"
)

// notFinite are the infinities and some NaNs.
func notFinite() []api.F {
	return []api.F{0x7f800000, 0xff800000, 0x7f800001, 0x7fbfffff, 0x7fc00000, 0x7fffffff, 0xff800001, 0xffc00000, 0xffffffff}
}

// TestNotFinite: D2, D3.
func TestNotFinite(t *testing.T) {
	for _, a := range notFinite() {
		if d, p, e := Digits(a); d != "" || p != 0 || e != api.ErrArg {
			t.Errorf("Digits(%08x) = %q, %d, %d", a, d, p, e)
		}
		if s, e := Shortest(a); s != "" || e != api.ErrArg {
			t.Errorf("Shortest(%08x) = %q, %d", a, s, e)
		}
	}
}

// TestDigitsRows: D2: the chapter's example, noughts, and the edges that the documents name.
func TestDigitsRows(t *testing.T) {
	for _, r := range []struct {
		a api.F
		d string
		p int
	}{
		{0x3dcccccd, "1", 0}, {0x00000000, "0", 1}, {0x80000000, "0", 1}, {0xbdcccccd, "1", 0},
		{0x3f800000, "1", 1}, {0x41200000, "1", 2}, {0x40490fdb, "31415927", 1}, {0x42f6e979, "123456", 3},
		{0x00000001, "1", -44}, {0x00000002, "3", -44}, {0x00000003, "4", -44}, {0x00000007, "1", -43}, {0x80000001, "1", -44},
		{0x007fffff, "11754942", -37}, {0x00800000, "11754944", -37}, {0x00800001, "11754945", -37}, {0x7f7fffff, "34028235", 39}, {0x7f000000, "17014118", 39},
		{0x4b800000, "16777216", 8}, {0x4c000000, "33554432", 8}, {0x4d000000, "13421773", 9}, {0x5f000000, "9223372", 19},
		{0x3f7fffff, "99999994", 0}, {0x3f800001, "10000001", 1},

		// As near to two texts: the even one.
		{0x49800002, "10485762", 7}, {0x49800006, "10485768", 7}, {0x4a000001, "20971522", 7}, {0x4a000003, "20971528", 7}, {0x48000008, "13107212", 6}, {0x48000018, "13107238", 6},

		// Nearer to the odd one of two texts by its twelfth digit alone.
		{0x3255d836, "124473925", -7},

		// Texts halfway to the next number mean the even one; the last one's shorter text lies just beyond.
		{0x4c000004, "3355445", 8}, {0x4c000005, "33554452", 8}, {0x4c000009, "33554468", 8}, {0x4c00000a, "3355447", 8}, {0x3dba3ebe, "90939984", -1},
	} {
		if d, p, e := Digits(r.a); d != r.d || p != r.p || e != api.OK {
			t.Errorf("Digits(%08x) = %q, %d, %d, want %q, %d", r.a, d, p, e, r.d, r.p)
		}
	}
}

// TestDigits: D2, by its words.
func TestDigits(t *testing.T) {
	for _, a := range spread() {
		holdDigits(t, a)
		d, p, _ := Digits(a)
		if other, point, e := Digits(a | minus); other != d || point != p || e != api.OK {
			t.Errorf("Digits(%08x) = %q, %d, %d", a|minus, other, point, e)
		}
	}
}

// holdDigits holds the digits of a positive number against all texts of as many and of fewer.
func holdDigits(t *testing.T, a api.F) {
	t.Helper()
	d, p, e := Digits(a)
	if e != api.OK || d == "" || strings.Trim(d, "0") != d || strings.Trim(d, "0123456789") != "" {
		t.Errorf("Digits(%08x) = %q, %d, %d", a, d, p, e)
		return
	}
	text := valueOf(t, "0."+d+"e"+strconv.Itoa(p))
	if rounded(text) != a {
		t.Errorf("Digits(%08x) = %q, %d: means %08x", a, d, p, rounded(text))
	}
	value := exact(a)
	for n := 1; n < len(d); n++ {
		for _, other := range about10(value, p, n) {
			if rounded(other) == a {
				t.Errorf("Digits(%08x) = %q, %d: %s is shorter", a, d, p, other.FloatString(60))
			}
		}
	}
	even := (d[len(d)-1]-'0')%2 == 0
	for _, other := range about10(value, p, len(d)) {
		nearer := away(other, value).Cmp(away(text, value))
		if rounded(other) == a && (nearer < 0 || nearer == 0 && other.Cmp(text) != 0 && !even) {
			t.Errorf("Digits(%08x) = %q, %d: %s is nearer, or even", a, d, p, other.FloatString(60))
		}
	}
}

func away(x, y *big.Rat) *big.Rat {
	d := new(big.Rat).Sub(x, y)
	return d.Abs(d)
}

// about10 are the texts of n digits just below and above a value, with the point at p and one place to either side; they may have noughts at their end.
func about10(value *big.Rat, p, n int) []*big.Rat {
	var all []*big.Rat
	for point := p - 1; point <= p+1; point++ {
		unit := ten(point - n)
		units := new(big.Rat).Quo(value, unit)
		floor := new(big.Int).Quo(units.Num(), units.Denom())
		for step := int64(-1); step <= 2; step++ {
			digits := new(big.Int).Add(floor, big.NewInt(step))
			if digits.Sign() > 0 && len(digits.String()) <= n {
				all = append(all, new(big.Rat).Mul(unit, new(big.Rat).SetInt(digits)))
			}
		}
	}
	return all
}

// TestShortestRows: D3: the chapter's examples, noughts, the edges, and the edges of the two ways of writing.
func TestShortestRows(t *testing.T) {
	for _, r := range []struct {
		a api.F
		s string
	}{
		{0x3dcccccd, "0.1"}, {0x3f800000, "1.0"}, {0x00000001, "1e-45"}, {0x7f7fffff, "3.4028235e38"}, {0x4cbebc20, "100000000.0"}, {0x501502f9, "1e10"},
		{0x00000000, "0.0"}, {0x80000000, "-0.0"}, {0x80000001, "-1e-45"}, {0xff7fffff, "-3.4028235e38"}, {0xbf800000, "-1.0"},
		{0x007fffff, "1.1754942e-38"}, {0x00800000, "1.1754944e-38"}, {0x807fffff, "-1.1754942e-38"}, {0x80800000, "-1.1754944e-38"},

		{0x3727c5ac, "1e-5"}, {0x38d1b716, "9.999999e-5"}, {0xb7ba8864, "-2.223644e-5"}, // p is -4
		{0x38d1b717, "0.0001"}, {0x3a83126e, "0.0009999999"}, {0xb9cd35f9, "-0.0003914086"}, // -3
		{0x3a83126f, "0.001"}, {0x3c23d70a, "0.01"}, {0x3ca3d70a, "0.02"}, // -2, -1, -1
		{0x3f000000, "0.5"}, {0x3f7fffff, "0.99999994"}, {0x3e000000, "0.125"}, // 0
		{0x3fc00000, "1.5"}, {0x411fffff, "9.999999"}, {0x40a00000, "5.0"}, {0xc0490fdb, "-3.1415927"}, // 1
		{0x41200000, "10.0"}, {0x42c80000, "100.0"}, {0x42c90000, "100.5"}, {0x461c4000, "10000.0"}, {0x4b7fffff, "16777215.0"},
		{0x4e6e6b27, "999999940.0"}, {0x4ceb79a3, "123456790.0"}, {0xcd000000, "-134217730.0"}, {0x4cbebc1f, "99999990.0"}, // 9, and 8
		{0x4e6e6b28, "1e9"}, {0x4e932c06, "1.234568e9"}, {0xcf000000, "-2.1474836e9"}, {0x501502f8, "9.999999e9"}, // 10
	} {
		if s, e := Shortest(r.a); s != r.s || e != api.OK {
			t.Errorf("Shortest(%08x) = %q, %d, want %q", r.a, s, e, r.s)
		}
	}
}

// TestShortest: D3, against the library's digits, at every place of the point and with as many digits as there are.
func TestShortest(t *testing.T) {
	all := spread()
	for e := api.F(110); e < 165; e++ {
		for fraction := range api.F(64) {
			all = append(all, e<<23+fraction*0x1ffff, e<<23+fraction<<17)
		}
	}
	for _, a := range all {
		want := library(a)
		if s, e := Shortest(a); s != want || e != api.OK {
			t.Errorf("Shortest(%08x) = %q, %d, want %q", a, s, e, want)
		}
		if s, e := Shortest(a | minus); s != "-"+want || e != api.OK {
			t.Errorf("Shortest(%08x) = %q, %d, want -%q", a|minus, s, e, want)
		}
	}
}

// library is what the library's own writer of numbers makes of D3.
func library(a api.F) string {
	x := float64(math.Float32frombits(uint32(a)))
	head, tail, _ := strings.Cut(strconv.FormatFloat(x, 'e', -1, 32), "e")
	exponent, _ := strconv.Atoi(tail)
	if exponent < -4 || exponent > 8 {
		return head + "e" + strconv.Itoa(exponent)
	}
	s := strconv.FormatFloat(x, 'f', -1, 32)
	if !strings.Contains(s, ".") {
		s += ".0"
	}
	return s
}
