package float

import (
	"math"
	"testing"

	"lathe/api"
	"lathe/samples"
)

// TestNaN: F1, any NaN in any place.
func TestNaN(t *testing.T) {
	for _, n := range nans() {
		for name, f := range map[string]func(api.F) api.F{"Sqrt": Sqrt, "Neg": Neg, "Abs": Abs} {
			if got := f(n); got != nan {
				t.Errorf("%s(%08x) = %08x", name, n, got)
			}
		}
		for name, f := range map[string]func(a, b api.F) api.F{"Add": Add, "Sub": Sub, "Mul": Mul, "Div": Div, "Min": Min, "Max": Max} {
			for _, a := range append(edges(), nans()...) {
				if got := f(n, a); got != nan {
					t.Errorf("%s(%08x, %08x) = %08x", name, n, a, got)
				}
				if got := f(a, n); got != nan {
					t.Errorf("%s(%08x, %08x) = %08x", name, a, n, got)
				}
			}
		}
	}
}

// A row is what an operation answers of two patterns.
type row struct{ a, b, want api.F }

func holdRows(t *testing.T, name string, operation func(a, b api.F) api.F, rows []row) {
	t.Helper()
	for _, r := range rows {
		if got := operation(r.a, r.b); got != r.want {
			t.Errorf("%s(%08x, %08x) = %08x, want %08x", name, r.a, r.b, got, r.want)
		}
	}
}

// TestAdd: F2.
func TestAdd(t *testing.T) {
	holdRows(t, "Add", Add, []row{
		{0x3f800000, 0x40000000, 0x40400000},
		{0x3dcccccd, 0x3e4ccccd, 0x3e99999a},
		{0x3f800000, 0x33800000, 0x3f800000}, // halfway, to the even
		{0x3f800001, 0x33800000, 0x3f800002},
		{0x3f800000, 0x33800001, 0x3f800001}, // just above halfway
		{0x3f800000, 0xb3000000, 0x3f800000}, // halfway below a power of two
		{0x7f7fffff, 0x73000000, 0x7f800000}, // 2^128 - 2^103
		{0x7f7fffff, 0x72ffffff, 0x7f7fffff},
		{0xff7fffff, 0xf3000000, 0xff800000},
		{0xff7fffff, 0xf2ffffff, 0xff7fffff},
		{0x7f7fffff, 0x7f7fffff, 0x7f800000},
		{0x007fffff, 0x00000001, 0x00800000},
		{0x00800000, 0x80000001, 0x007fffff},
		{0x00000001, 0x00000001, 0x00000002},
		{0x80000001, 0x80000001, 0x80000002},
		{0x00000001, 0x80000001, 0x00000000},
		{0x3f800000, 0xbf800000, 0x00000000},
		{0xbf800000, 0x3f800000, 0x00000000},
		{0x80000000, 0x80000000, 0x80000000},
		{0x80000000, 0x00000000, 0x00000000},
		{0x00000000, 0x80000000, 0x00000000},
		{0x00000000, 0x00000000, 0x00000000},
		{0x80000000, 0x80000001, 0x80000001},
		{0x7f800000, 0x7f800000, 0x7f800000},
		{0xff800000, 0xff800000, 0xff800000},
		{0x7f800000, 0xff800000, 0x7fc00000},
		{0xff800000, 0x7f800000, 0x7fc00000},
		{0x7f800000, 0xff7fffff, 0x7f800000},
		{0x3f800000, 0xff800000, 0xff800000},
	})
}

// TestSub: F2.
func TestSub(t *testing.T) {
	holdRows(t, "Sub", Sub, []row{
		{0x40400000, 0x3f800000, 0x40000000},
		{0x3f800000, 0x40400000, 0xc0000000},
		{0x00000000, 0x00000000, 0x00000000},
		{0x80000000, 0x00000000, 0x80000000},
		{0x00000000, 0x80000000, 0x00000000},
		{0x80000000, 0x80000000, 0x00000000},
		{0x00800000, 0x00800001, 0x80000001},
		{0x7f800000, 0x7f800000, 0x7fc00000},
		{0x7f800000, 0xff800000, 0x7f800000},
		{0x3f800000, 0x7f800000, 0xff800000},
		{0xff7fffff, 0x73000000, 0xff800000},
		{0x3f800000, 0x33000000, 0x3f800000}, // halfway, to the even
		{0x3f800000, 0x33000001, 0x3f7fffff},
	})
	all := append(edges(), nans()...)
	for _, a := range all {
		for _, b := range all {
			if got, want := Sub(a, b), Add(a, Neg(b)); got != want {
				t.Errorf("Sub(%08x, %08x) = %08x, Add of Neg %08x", a, b, got, want)
			}
		}
	}
}

// TestMul: F3.
func TestMul(t *testing.T) {
	holdRows(t, "Mul", Mul, []row{
		{0x40000000, 0x40400000, 0x40c00000},
		{0xc0000000, 0x40400000, 0xc0c00000},
		{0xc0000000, 0xc0400000, 0x40c00000},
		{0x00000001, 0x3f000000, 0x00000000}, // halfway, to the even
		{0x00000003, 0x3f000000, 0x00000002},
		{0x80000001, 0x3f000000, 0x80000000},
		{0x00000001, 0x3f000001, 0x00000001},
		{0x00000001, 0x00000001, 0x00000000},
		{0x80000001, 0x00000001, 0x80000000},
		{0x00800000, 0x3f000000, 0x00400000},
		{0x00ffffff, 0x3f000000, 0x00800000}, // halfway, to the least normal one
		{0x3f800001, 0x3f800001, 0x3f800002},
		{0x7f7fffff, 0x3f800001, 0x7f800000},
		{0x7f7fffff, 0x40000000, 0x7f800000},
		{0x7f7fffff, 0xc0000000, 0xff800000},
		{0x5f800000, 0x5f800000, 0x7f800000},
		{0x5f7fffff, 0x5f800000, 0x7f7fffff},
		{0x00000000, 0x80000000, 0x80000000},
		{0x80000000, 0x80000000, 0x00000000},
		{0x00000000, 0xff7fffff, 0x80000000},
		{0x7f800000, 0x00000000, 0x7fc00000},
		{0x80000000, 0x7f800000, 0x7fc00000},
		{0x7f800000, 0xff800000, 0xff800000},
		{0xff800000, 0xff800000, 0x7f800000},
		{0xff800000, 0x00000001, 0xff800000},
	})
}

// TestDiv: F4.
func TestDiv(t *testing.T) {
	holdRows(t, "Div", Div, []row{
		{0x40c00000, 0x40400000, 0x40000000},
		{0x3f800000, 0x40400000, 0x3eaaaaab},
		{0x3f800000, 0xc0400000, 0xbeaaaaab},
		{0x3f800000, 0x41200000, 0x3dcccccd},
		{0x00000001, 0x40000000, 0x00000000}, // halfway, to the even
		{0x00000003, 0x40000000, 0x00000002},
		{0x80000001, 0x40000000, 0x80000000},
		{0x00800000, 0x40000000, 0x00400000},
		{0x3f800000, 0x7f7fffff, 0x00200000},
		{0x7f7fffff, 0x00000001, 0x7f800000},
		{0x7f7fffff, 0x3f7fffff, 0x7f800000},
		{0x7f7fffff, 0xbf000000, 0xff800000},
		{0x00000000, 0x80000000, 0x7fc00000},
		{0x00000000, 0x00000000, 0x7fc00000},
		{0x7f800000, 0xff800000, 0x7fc00000},
		{0x7f800000, 0x80000000, 0xff800000},
		{0xff800000, 0xbf800000, 0x7f800000},
		{0xff7fffff, 0x7f800000, 0x80000000},
		{0x80000000, 0xff800000, 0x00000000},
		{0x3f800000, 0x80000000, 0xff800000},
		{0x80000001, 0x80000000, 0x7f800000},
		{0x80000000, 0x3f800000, 0x80000000},
		{0x00000000, 0x7f7fffff, 0x00000000},
	})
}

// TestSqrt: F5.
func TestSqrt(t *testing.T) {
	for _, c := range []struct{ a, want api.F }{
		{0x40000000, 0x3fb504f3}, {0x40800000, 0x40000000}, {0x3e800000, 0x3f000000},
		{0x00000000, 0x00000000}, {0x80000000, 0x80000000},
		{0x00000001, 0x1a3504f3}, {0x00000002, 0x1a800000}, {0x007fffff, 0x1fffffff}, {0x00800000, 0x20000000},
		{0x7f7fffff, 0x5f7fffff}, {0x7f800000, 0x7f800000},
		{0xbf800000, 0x7fc00000}, {0x80000001, 0x7fc00000}, {0xff7fffff, 0x7fc00000}, {0xff800000, 0x7fc00000},
	} {
		if got := Sqrt(c.a); got != c.want {
			t.Errorf("Sqrt(%08x) = %08x, want %08x", c.a, got, c.want)
		}
	}
}

// TestNegAbs: F6.
func TestNegAbs(t *testing.T) {
	for _, a := range edges() {
		if got := Neg(a); got != a^0x80000000 {
			t.Errorf("Neg(%08x) = %08x", a, got)
		}
		if got := Abs(a); got != a&0x7fffffff {
			t.Errorf("Abs(%08x) = %08x", a, got)
		}
	}
}

// TestMinMax: F6; the edges stand in the order.
func TestMinMax(t *testing.T) {
	all := edges()
	for i, a := range all {
		for _, b := range all[i:] {
			if got, turned := Min(a, b), Min(b, a); got != a || turned != a {
				t.Errorf("Min(%08x, %08x) = %08x, turned round %08x", a, b, got, turned)
			}
			if got, turned := Max(a, b), Max(b, a); got != b || turned != b {
				t.Errorf("Max(%08x, %08x) = %08x, turned round %08x", a, b, got, turned)
			}
		}
	}
}

// TestLessEqual: F6.
func TestLessEqual(t *testing.T) {
	all := edges()
	for i, a := range all {
		for j, b := range all {
			noughts := isNought(a) && isNought(b)
			if got := Less(a, b); got != (i < j && !noughts) {
				t.Errorf("Less(%08x, %08x) = %v", a, b, got)
			}
			if got := Equal(a, b); got != (i == j || noughts) {
				t.Errorf("Equal(%08x, %08x) = %v", a, b, got)
			}
		}
	}
	for _, n := range nans() {
		for _, a := range append(edges(), nans()...) {
			if Less(n, a) || Less(a, n) || Equal(n, a) || Equal(a, n) {
				t.Errorf("%08x stands in an order with %08x", n, a)
			}
		}
	}
}

// TestFinite: F6.
func TestFinite(t *testing.T) {
	for _, a := range edges() {
		if got := Finite(a); got != (a&0x7fffffff != 0x7f800000) {
			t.Errorf("Finite(%08x) = %v", a, got)
		}
	}
	for _, n := range nans() {
		if Finite(n) {
			t.Errorf("Finite(%08x)", n)
		}
	}
}

// TestSelect: F6; NaNs that are handed on are told as the one.
func TestSelect(t *testing.T) {
	const yes, no = api.F(0x40e00000), api.F(0x80000003)
	for _, c := range edges() {
		want := yes
		if c == 0 || c == 0x80000000 {
			want = no
		}
		if got := Select(c, yes, no); got != want {
			t.Errorf("Select(%08x, ..) = %08x", c, got)
		}
	}
	for _, n := range nans() {
		if got := Select(n, yes, no); got != no {
			t.Errorf("Select(%08x, ..) = %08x", n, got)
		}
		if got := Select(api.One, n, no); got != nan {
			t.Errorf("Select(1, %08x, ..) = %08x", n, got)
		}
		if got := Select(api.Minus, yes, n); got != nan {
			t.Errorf("Select(-0, .., %08x) = %08x", n, got)
		}
		if got := Select(n, yes, n); got != nan {
			t.Errorf("Select(%08x, .., itself) = %08x", n, got)
		}
		if yes2, no2 := Select(api.One, yes, n), Select(api.Zero, n, no); yes2 != yes || no2 != no {
			t.Errorf("a NaN that is not taken: %08x, %08x", yes2, no2)
		}
	}
}

// TestFromInt: F7.
func TestFromInt(t *testing.T) {
	for _, c := range []struct {
		n    int
		want api.F
	}{
		{0, 0x00000000}, {1, 0x3f800000}, {-1, 0xbf800000}, {7, 0x40e00000}, {-4096, 0xc5800000},
		{16777215, 0x4b7fffff}, {16777216, 0x4b800000}, {16777217, 0x4b800000}, {16777218, 0x4b800001}, {16777219, 0x4b800002},
		{-16777217, 0xcb800000}, {-16777219, 0xcb800002},
		{api.MaxCount, 0x4f000000},
		{1<<53 + 1<<29 + 1, 0x5a000001}, // rounded to binary64 first it would be halfway
		{1<<62 + 1<<38 + 1, 0x5e800001},
		{-1<<62 - 1<<38 - 1, 0xde800001},
		{1<<62 + 1<<38, 0x5e800000},
		{1<<62 + 3<<38 - 1, 0x5e800001},
		{math.MaxInt64, 0x5f000000}, {math.MaxInt64 - 1<<38, 0x5effffff}, {math.MaxInt64 - 1<<38 + 1, 0x5f000000},
		{math.MinInt64, 0xdf000000}, {math.MinInt64 + 1, 0xdf000000}, {math.MinInt64 + 1<<38 + 1, 0xdeffffff},
	} {
		if got := FromInt(c.n); got != c.want {
			t.Errorf("FromInt(%d) = %08x, want %08x", c.n, got, c.want)
		}
	}
}

// TestPower: F7.
func TestPower(t *testing.T) {
	for _, c := range []struct {
		x    api.F
		n    int
		want api.F
	}{
		{0x3fc00000, 5, 0x40f30000}, {0x40000000, 10, 0x44800000}, {0xc0000000, 3, 0xc1000000}, {0xc0000000, 4, 0x41800000},
		{0x40000000, 127, 0x7f000000}, {0x40000000, 128, 0x7f800000}, {0xc0000000, 129, 0xff800000},
		{0x3f000000, 149, 0x00000001}, {0x3f000000, 150, 0x00000000}, {0xbf000000, 151, 0x80000000},
		{0x40e00000, 0, 0x3f800000}, {0x40e00000, -1, 0x3f800000}, {0x00000000, 0, 0x3f800000}, {0x00000000, math.MinInt64, 0x3f800000},
		{0x7f800000, 0, 0x3f800000}, {0x7fc00001, 0, 0x3f800000}, {0xff800001, -7, 0x3f800000},
		{0x7fc00001, 1, 0x7fc00000}, {0xff800001, 1, 0x7fc00000}, {0xffffffff, 6, 0x7fc00000},
		{0x40e00000, 1, 0x40e00000}, {0x80000001, 1, 0x80000001}, {0x80000000, 1, 0x80000000},
		{0x80000000, 2, 0x00000000}, {0x80000000, 3, 0x80000000}, {0xff800000, 2, 0x7f800000}, {0xff800000, 5, 0xff800000},
		{0x3f800000, math.MaxInt64, 0x3f800000}, {0xbf800000, math.MaxInt64, 0xbf800000}, {0xbf800000, math.MaxInt64 - 1, 0x3f800000},
		{0x3f7fffff, math.MaxInt64, 0x00000000}, {0x3f800001, math.MaxInt64, 0x7f800000}, {0xbf800001, math.MaxInt64, 0xff800000},
	} {
		if got := Power(c.x, c.n); got != c.want {
			t.Errorf("Power(%08x, %d) = %08x, want %08x", c.x, c.n, got, c.want)
		}
	}
}

// TestPowerOrder: F7, which product is rounded ahead of which, spelt out.
func TestPowerOrder(t *testing.T) {
	numbers := samples.Source(7)
	for range 2000 {
		x := numbers.Next()&0x807fffff | 0x3f800000
		second := Mul(x, x)
		third := Mul(second, x)
		sixth := Mul(third, third)
		thirteenth := Mul(Mul(sixth, sixth), x)
		for _, c := range []struct {
			n    int
			want api.F
		}{
			{1, x}, {2, second}, {3, third}, {4, Mul(second, second)}, {5, Mul(Mul(second, second), x)},
			{6, sixth}, {7, Mul(sixth, x)}, {12, Mul(sixth, sixth)}, {13, thirteenth}, {26, Mul(thirteenth, thirteenth)},
		} {
			if got := Power(x, c.n); got != c.want {
				t.Errorf("Power(%08x, %d) = %08x, want %08x", x, c.n, got, c.want)
			}
		}
	}
}
