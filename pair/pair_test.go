package pair

import (
	"math"
	"testing"

	"lathe/api"
	"lathe/float"
	"lathe/samples"
)

// A row is what an operation answers of two numbers.
type row struct{ z, w, want api.C }

func holdRows(t *testing.T, name string, operation func(z, w api.C) api.C, rows []row) {
	t.Helper()
	for _, r := range rows {
		if got := operation(r.z, r.w); got != r.want {
			t.Errorf("%s(%08x, %08x) = %08x, want %08x", name, r.z, r.w, got, r.want)
		}
	}
}

// TestExamples: those of the chapter.
func TestExamples(t *testing.T) {
	if got := Mul(whole(1, 2), whole(3, 4)); got != whole(-5, 10) {
		t.Errorf("Mul: %08x", got)
	}
	if got := Square(whole(3, 4)); got != 0x41c80000 {
		t.Errorf("Square: %08x", got)
	}
	if got := Conj(whole(1, 0)); got != c(0x3f800000, minus) {
		t.Errorf("Conj: %08x", got)
	}
	if got := Scale(whole(1, -2), 0xbf000000); got != c(0xbf000000, 0x3f800000) {
		t.Errorf("Scale: %08x", got)
	}
	if got := Power(whole(0, 1), 3); got != c(minus, 0xbf800000) {
		t.Errorf("Power of i: %08x", got)
	}
	if got := Power(whole(0, 0), 0); got != whole(1, 0) {
		t.Errorf("Power of 0: %08x", got)
	}
	if got := Mul(c(plusInf, 0), whole(0, 1)); got != c(nan, plusInf) {
		t.Errorf("Mul of an infinite part: %08x", got)
	}
}

// TestAdd: PA1.
func TestAdd(t *testing.T) {
	holdRows(t, "Add", Add, []row{
		{whole(1, 2), whole(3, -5), whole(4, -3)},
		{c(0x3f800000, 0x3f800001), c(0x33800000, 0x33800000), c(0x3f800000, 0x3f800002)}, // halfway, to the even
		{c(minus, minus), c(minus, 0), c(minus, 0)},
		{c(0x3f800000, 0xbf800000), c(0xbf800000, 0x3f800000), c(0, 0)},
		{c(0x7f7fffff, 0xff7fffff), c(0x73000000, 0xf2ffffff), c(plusInf, 0xff7fffff)},
		{c(0x007fffff, 0x80000001), c(0x00000001, 0x80000001), c(0x00800000, 0x80000002)},
		{c(plusInf, minusInf), c(minusInf, minusInf), c(nan, minusInf)},
		{c(0x7f800001, 0x3f800000), c(0x3f800000, 0xffffffff), c(nan, nan)},
		{c(0xffc00000, 0x40000000), c(0, 0x40000000), c(nan, 0x40800000)},
	})
}

// TestSub: PA1.
func TestSub(t *testing.T) {
	holdRows(t, "Sub", Sub, []row{
		{whole(1, 2), whole(3, -5), whole(-2, 7)},
		{c(0x3f800000, 0x3f800001), c(0xb3800000, 0xb3800000), c(0x3f800000, 0x3f800002)},
		{c(minus, minus), c(minus, 0), c(0, minus)},
		{whole(7, -7), whole(7, -7), c(0, 0)},
		{c(0x7f7fffff, 0xff7fffff), c(0xf2ffffff, 0x73000000), c(0x7f7fffff, minusInf)},
		{c(0x00800000, 0), c(0x00000001, 0x00000001), c(0x007fffff, 0x80000001)},
		{c(plusInf, minusInf), c(minusInf, minusInf), c(plusInf, nan)},
		{c(0x7f800001, 0x3f800000), c(0x3f800000, 0xffffffff), c(nan, nan)},
	})
}

// TestNegConj: PA1.
func TestNegConj(t *testing.T) {
	for _, r := range []struct{ z, neg, conj api.C }{
		{whole(1, -2), whole(-1, 2), whole(1, 2)},
		{c(0, 0), c(minus, minus), c(0, minus)},
		{c(minus, minus), c(0, 0), c(minus, 0)},
		{c(0x00000001, 0x807fffff), c(0x80000001, 0x007fffff), c(0x00000001, 0x007fffff)},
		{c(plusInf, minusInf), c(minusInf, plusInf), c(plusInf, plusInf)},
		{c(nan, 0x7f7fffff), c(nan, 0xff7fffff), c(nan, 0xff7fffff)},
	} {
		if got := Neg(r.z); got != r.neg {
			t.Errorf("Neg(%08x) = %08x, want %08x", r.z, got, r.neg)
		}
		if got := Conj(r.z); got != r.conj {
			t.Errorf("Conj(%08x) = %08x, want %08x", r.z, got, r.conj)
		}
	}
	for _, n := range samples.NaNs() {
		if got := Neg(c(n, n)); got != c(nan, nan) {
			t.Errorf("Neg of %08x: %08x", n, got)
		}
		if got := Conj(c(n, n)); got != c(nan, nan) {
			t.Errorf("Conj of %08x: %08x", n, got)
		}
	}
}

// TestScale: PA1.
func TestScale(t *testing.T) {
	for _, r := range []struct {
		z    api.C
		f    api.F
		want api.C
	}{
		{whole(3, -4), 0x40000000, whole(6, -8)},
		{whole(1, -2), 0, c(0, minus)},
		{whole(1, -2), minus, c(minus, 0)},
		{c(0, minus), 0xbf800000, c(minus, 0)},
		{whole(1, -2), plusInf, c(plusInf, minusInf)},
		{whole(1, -2), minusInf, c(minusInf, plusInf)},
		{whole(0, 1), plusInf, c(nan, plusInf)},
		{c(0xbf800000, minus), minusInf, c(plusInf, nan)},
		{c(plusInf, 0x3f800000), 0, c(nan, 0)},
		{whole(1, 0), nan, c(nan, nan)},
		{whole(1, 0), 0xff800001, c(nan, nan)},
		{c(0x7f800001, 0x40000000), 0x40400000, c(nan, 0x40c00000)},
		{c(0x7f7fffff, 0xff7fffff), 0x3f800001, c(plusInf, minusInf)},
		{c(0x00000001, 0x80000003), 0x3f000000, c(0, 0x80000002)},
		{c(0x80000001, 0x00800000), 0x3f000000, c(minus, 0x00400000)},
		{c(0x3f800800, 0x3dcccccd), 0x3f800800, c(0x3f801000, 0x3dccd99a)},
	} {
		if got := Scale(r.z, r.f); got != r.want {
			t.Errorf("Scale(%08x, %08x) = %08x, want %08x", r.z, r.f, got, r.want)
		}
	}
}

// TestMul: PA2.
func TestMul(t *testing.T) {
	holdRows(t, "Mul", Mul, []row{
		{c(0x3dcccccd, 0x3e4ccccd), c(0x3e99999a, 0x3ecccccd), c(0xbd4cccce, 0x3dccccce)},
		{whole(-1, 2), whole(3, -4), whole(5, 10)},
		// noughts
		{c(minus, 0), c(0x3f800000, 0), c(minus, 0)},
		{c(minus, 0), c(0x3f800000, minus), c(0, 0)},
		{c(minus, minus), c(0, 0), c(0, minus)},
		{c(0, minus), c(0, minus), c(0, minus)},
		{c(0, 0), c(0, 0), c(0, 0)},
		// beyond the greatest number
		{c(0x7f7fffff, 0), c(0x3f800001, 0), c(plusInf, 0)},
		{c(0, 0x7f7fffff), c(0, 0x3f800001), c(minusInf, 0)},
		{c(0x7f7fffff, 0x7f7fffff), c(0x3f800000, 0xbf800000), c(plusInf, 0)},
		{c(0x7f7fffff, 0x7f7fffff), c(0x3f800000, 0x3f800000), c(0, plusInf)},
		{c(0x7f7fffff, 0x7f7fffff), c(0x40000000, 0x40000000), c(nan, plusInf)},
		{c(0x7f000000, 0x40000000), c(0x40000000, 0x7f000000), c(nan, plusInf)},
		// rounded to noughts, subnormal
		{c(0x00000001, 0), c(0x3f000000, 0), c(0, 0)},
		{c(0x00000003, 0x00000001), c(0x3f000000, 0x3f000000), c(0x00000002, 0x00000002)},
		{c(0x007fffff, 0x00400000), c(0x3f800000, 0x40000000), c(0x80000001, 0x011fffff)},
		// infinite parts
		{c(plusInf, plusInf), c(0x3f800000, 0x3f800000), c(nan, plusInf)},
		{c(plusInf, plusInf), c(0x3f800000, 0xbf800000), c(plusInf, nan)},
		{c(0x3f800000, minusInf), c(0x40000000, 0x40400000), c(plusInf, minusInf)},
		// NaNs
		{c(0x7f800001, 0x3f800000), c(0x3f800000, 0), c(nan, nan)},
		{c(0x3f800000, 0), c(0, 0xffabcdef), c(nan, nan)},
	})
}

// TestMulRoundedEach: PA2; rounded once, each of these would come out otherwise.
func TestMulRoundedEach(t *testing.T) {
	holdRows(t, "Mul", Mul, []row{
		// 1 + 2^-11 + 2^-24 is rounded ahead of the sum: the rest 2^-24 is gone, in Re and in Im
		{c(0x3f800800, 0x3f800000), c(0x3f800800, 0x3f801000), c(0, 0x40001000)},
		{c(0x3f800000, 0x3f800800), c(0x3f801000, 0x3f800800), c(0, 0x40001000)},
		{c(0x3f800800, 0x3f800000), c(0xbf801000, 0x3f800800), c(0xc0001000, 0)},
		{c(0x3f800000, 0x3f800800), c(0x3f800800, 0xbf801000), c(0x40001000, 0)},
		// halves of the least number
		{c(0x00000001, 0x00000001), c(0x3f000000, 0xbf000000), c(0, 0)},
		{c(0x00000001, 0x00000001), c(0x3f000000, 0x3f000000), c(0, 0)},
		{c(0x1a000000, 0x1a000000), c(0x1a000000, 0x9a000000), c(0, 0)},
		// a product beyond the greatest number, their difference not
		{c(0x7f000000, 0x7f000000), c(0x40000000, 0x3f800000), c(plusInf, plusInf)},
		{c(0x7f000000, 0x7f000000), c(0x40000000, 0xbf800000), c(plusInf, plusInf)},
	})
}

// TestSquare: PA2.
func TestSquare(t *testing.T) {
	for _, r := range []struct {
		z    api.C
		want api.F
	}{
		{whole(-3, 4), 0x41c80000},
		{c(0x3dcccccd, 0x3e4ccccd), 0x3d4cccce},
		{c(0x3f800800, 0x39800000), 0x3f801000}, // rounded once: 3f801001
		{c(0x39800000, 0x3f800800), 0x3f801000},
		{c(0, minus), 0},
		{c(minus, minus), 0},
		{c(0x5f800000, 0), plusInf},
		{c(0, 0xff7fffff), plusInf},
		{c(0x5f7fffff, 0x5f7fffff), plusInf},
		{c(0x5f3504f3, 0x5f3504f3), 0x7f7fffff},
		{c(0x1a000000, 0x9a000000), 0}, // two halves of the least number
		{c(0x1a3504f3, 0x1a3504f3), 0x00000002},
		{c(minusInf, 0), plusInf},
		{c(0x3f800000, plusInf), plusInf},
		{c(minusInf, 0x7fc00001), nan},
		{c(0x7f800001, 0), nan},
		{c(0, 0xffffffff), nan},
	} {
		if got := Square(r.z); got != r.want {
			t.Errorf("Square(%08x) = %08x, want %08x", r.z, got, r.want)
		}
	}
}

// TestByFloat: PA1 and PA2, the chapter's words at all patterns of each; rule 5.
func TestByFloat(t *testing.T) {
	hold := func(name string, z, w, got, want api.C) {
		if got != want {
			t.Errorf("%s(%08x, %08x) = %08x, want %08x", name, z, w, got, want)
		}
		if !samples.IsTold(got.Re) || !samples.IsTold(got.Im) {
			t.Errorf("%s(%08x, %08x) tells %08x", name, z, w, got)
		}
	}
	each(func(z, w api.C) {
		hold("Add", z, w, Add(z, w), c(float.Add(z.Re, w.Re), float.Add(z.Im, w.Im)))
		hold("Sub", z, w, Sub(z, w), c(float.Sub(z.Re, w.Re), float.Sub(z.Im, w.Im)))
		hold("Neg", z, w, Neg(z), c(float.Neg(z.Re), float.Neg(z.Im)))
		hold("Conj", z, w, Conj(z), c(float.Neg(float.Neg(z.Re)), float.Neg(z.Im)))
		hold("Scale", z, w, Scale(z, w.Re), c(float.Mul(z.Re, w.Re), float.Mul(z.Im, w.Re)))
		hold("Mul", z, w, Mul(z, w), mulByFloat(z, w))
		hold("Square", z, w, c(Square(z), 0), c(float.Add(float.Mul(z.Re, z.Re), float.Mul(z.Im, z.Im)), 0))
	})
}

func mulByFloat(z, w api.C) api.C {
	return c(
		float.Sub(float.Mul(z.Re, w.Re), float.Mul(z.Im, w.Im)),
		float.Add(float.Mul(z.Re, w.Im), float.Mul(z.Im, w.Re)),
	)
}

// TestPowerBelowOne: PA3, whatever the number is.
func TestPowerBelowOne(t *testing.T) {
	for _, z := range []api.C{whole(0, 0), whole(2, 3), c(minus, minus), c(plusInf, nan), c(0xff800001, 0x7fffffff)} {
		for _, n := range []int{0, -1, -2, -1024, math.MinInt} {
			if got := Power(z, n); got != c(0x3f800000, 0) {
				t.Errorf("Power(%08x, %d) = %08x", z, n, got)
			}
		}
	}
}

// TestPowerOfOne: PA3, the number itself, but for its NaNs.
func TestPowerOfOne(t *testing.T) {
	for _, z := range []api.C{whole(2, -3), c(minus, 0), c(0, minus), c(0x00000001, 0x807fffff), c(plusInf, minusInf), c(nan, 0x3f800000)} {
		if got := Power(z, 1); got != z {
			t.Errorf("Power(%08x, 1) = %08x", z, got)
		}
	}
	for _, n := range samples.NaNs() {
		if got := Power(c(n, 0xbf800000), 1); got != c(nan, 0xbf800000) {
			t.Errorf("Power of the part %08x, 1: %08x", n, got)
		}
		if got := Power(c(minus, n), 1); got != c(minus, nan) {
			t.Errorf("Power of the part %08x, 1: %08x", n, got)
		}
		for _, power := range []int{2, 3, 1024} {
			if got := Power(c(n, 0xbf800000), power); got != c(nan, nan) {
				t.Errorf("Power of the part %08x, %d: %08x", n, power, got)
			}
		}
	}
}

// TestPower: PA3. What numbers about the circle give was reckoned exactly outside of the project; most of it comes out otherwise from the low bit, or by one factor after the other.
func TestPower(t *testing.T) {
	for _, r := range []struct {
		z    api.C
		n    int
		want api.C
	}{
		{whole(1, 2), 2, whole(-3, 4)},
		{whole(1, 2), 3, whole(-11, -2)},
		{whole(1, 1), 20, whole(-1024, 0)},
		{whole(0, 1), 2, c(0xbf800000, 0)},
		{whole(0, 1), 4, c(0x3f800000, minus)},
		{c(0xbf2ef8ad, 0x3f3adf24), 2, c(0xbd869034, 0xbf7f7262)},
		{c(0x3f6aa09f, 0x3ecccd54), 3, c(0x3ea8ecf8, 0x3f71aa44)},
		{c(0xbd6d37b6, 0x3f7f9200), 4, c(0x3f792763, 0x3e6b3b17)},
		{c(0xbf7b791d, 0x3e3fb845), 5, c(0xbf16a2e5, 0x3f4efd56)},
		{c(0xbf24bb5d, 0xbf43f529), 6, c(0x3efd93ad, 0xbf5e65c6)},
		{c(0x3f2c6a98, 0xbf3d3b49), 7, c(0x3f655f0c, 0x3ee35ff6)},
		{c(0xbef3a200, 0xbf6128d0), 10, c(0xbe7a399c, 0xbf783d3f)},
		{c(0xbf5774af, 0xbf0a419c), 11, c(0xbf7ffe26, 0x3bf74100)},
		{c(0x3f29670c, 0xbf3fef2f), 13, c(0x3cc627e0, 0x3f7fecce)},
		{c(0x3f38cef4, 0xbf312635), 100, c(0x3f04b30a, 0xbf5aec2c)},
		{c(0xbf4a0bc6, 0x3f1d347d), 1023, c(0x3f0cdc93, 0xbf55c64e)},
		{c(0x3f6b0456, 0xbecb01fd), 1024, c(0xbf70cb89, 0xbeadc795)},
	} {
		if got := Power(r.z, r.n); got != r.want {
			t.Errorf("Power(%08x, %d) = %08x, want %08x", r.z, r.n, got, r.want)
		}
	}
}

// byBits is PA3's words, over a list of n's bits.
func byBits(z api.C, n int) api.C {
	var low []int
	for ; n > 1; n /= 2 {
		low = append(low, n%2)
	}
	r := c(float.Neg(float.Neg(z.Re)), float.Neg(float.Neg(z.Im)))
	for i := len(low) - 1; i >= 0; i-- {
		r = mulByFloat(r, r)
		if low[i] == 1 {
			r = mulByFloat(r, z)
		}
	}
	return r
}

// TestPowerByBits: PA3, each number with small n and with great ones.
func TestPowerByBits(t *testing.T) {
	powers := []int{1023, 1024, 1025, 65535, 1 << 30, api.MaxCount, 1 << 62, math.MaxInt - 1, math.MaxInt}
	for n := 1; n <= 70; n++ {
		powers = append(powers, n)
	}
	var all []api.C
	for _, a := range samples.Edges() {
		for _, b := range samples.Edges() {
			all = append(all, c(a, b))
		}
	}
	numbers := samples.Source(12)
	for range 500 {
		all = append(all, c(numbers.Near(0x3f000000, 1), numbers.Near(0x3f000000, 1)), c(numbers.Next(), numbers.Next()))
	}
	for _, z := range all {
		for _, n := range powers {
			if got, want := Power(z, n), byBits(z, n); got != want {
				t.Fatalf("Power(%08x, %d) = %08x, want %08x", z, n, got, want)
			}
		}
	}
}
