package vector

import (
	"testing"

	"lathe/api"
	"lathe/float"
	"lathe/samples"
)

// What the rows of several elements give was reckoned exactly outside of the project; it comes out otherwise in another order, and where something is rounded less often.

// told is a list and what a call answers of it.
type told struct {
	list []api.F
	want api.F
}

func holdTold(t *testing.T, name string, call func(a []api.F) api.F, all []told) {
	t.Helper()
	for _, r := range all {
		if got := call(r.list); got != r.want {
			t.Errorf("%s(%08x) = %08x, want %08x", name, r.list, got, r.want)
		}
	}
}

// holdNaNs: each NaN alone and beside others.
func holdNaNs(t *testing.T, name string, call func(a []api.F) api.F) {
	t.Helper()
	for _, n := range append(samples.NaNs(), nan) {
		holdTold(t, name, call, []told{
			{[]api.F{n}, nan},
			{[]api.F{n, 0x3f800000, 0}, nan},
			{[]api.F{minus, n, 0x3f800000}, nan},
			{[]api.F{plusInf, minus, n}, nan},
		})
	}
}

// TestSum: V2.
func TestSum(t *testing.T) {
	holdTold(t, "Sum", Sum, []told{
		{nil, 0},
		{[]api.F{}, 0},
		{[]api.F{minus}, 0},
		{[]api.F{minus, minus, minus}, 0},
		{[]api.F{0}, 0},
		{[]api.F{0xbf800000}, 0xbf800000},
		{[]api.F{0x00000001}, 0x00000001},
		{[]api.F{0x807fffff, 0x80000001}, 0x80800000},
		{[]api.F{0x3f800000, 0xbf800000}, 0},
		{[]api.F{0x4b800000, 0x3f800000, 0x3f800000}, 0x4b800000},
		{[]api.F{0x3f800000, 0x3f800000, 0x4b800000}, 0x4b800001},
		{[]api.F{0x3f800000, 0x4b800000, 0x3f800000}, 0x4b800000},
		{[]api.F{0x7f7fffff, 0x7f7fffff, 0xff7fffff}, plusInf},
		{[]api.F{0x7f7fffff, 0xff7fffff, 0x7f7fffff}, 0x7f7fffff},
		{[]api.F{plusInf, 0xff7fffff, plusInf}, plusInf},
		{[]api.F{minusInf, 0x7f7fffff}, minusInf},
		{[]api.F{plusInf, minusInf}, nan},
		{[]api.F{0x7f7fffff, 0x7f7fffff, minusInf}, nan},
		{[]api.F{0xbe5ef2e0, 0x3c6b9086, 0x3dd31199}, 0xbdcd6217},
		{[]api.F{0x3fd92448, 0x3d3d9890, 0x3d074bce, 0x3c79800e}, 0x3fe53e6a},
		{[]api.F{0xbd8f3c10, 0xbdf6fef2, 0xbfac14b4, 0xbef2445b, 0xbe6346f5}, 0xc00eb92c},
		{[]api.F{0x3e41f161, 0xbe8813f2, 0xbed8e88b, 0xbc613bd7, 0x3ec7979c, 0xbe6ae8e5, 0x3e628715, 0xbe7a7b38}, 0xbec0e492},
		{[]api.F{0xbed3291c, 0x3c3cb5fd, 0xbe29b740, 0xbe3b4195, 0x3eac877a, 0x3ede7120, 0xbf2cce47, 0xbd6f5940, 0xbffcf192, 0x3ec25264, 0x3d196d77, 0xbef7fc1f, 0xbfa434b2}, 0xc0813640},
	})
	holdNaNs(t, "Sum", Sum)
}

// TestSquares: V2.
func TestSquares(t *testing.T) {
	holdTold(t, "Squares", Squares, []told{
		{nil, 0},
		{[]api.F{}, 0},
		{[]api.F{minus}, 0},
		{[]api.F{0xc0400000}, 0x41100000},
		{[]api.F{0x40400000, 0x40800000}, 0x41c80000},
		{[]api.F{0x5f800000}, plusInf},
		{[]api.F{0x5f7fffff}, 0x7f7ffffe},
		{[]api.F{minusInf, 0}, plusInf},
		{[]api.F{0x1a000000, 0x1a000000}, 0}, // two halves of the least number
		{[]api.F{0x1a3504f3, 0x9a3504f4}, 0x00000002},
		{[]api.F{0xbe4c4380, 0xbeded9f2}, 0x3e6abda2},
		{[]api.F{0x3ff1c098, 0x3ec4db5f, 0x3f4afd34}, 0x408affae},
		{[]api.F{0x3f2243d3, 0x3f47ed59, 0x3e88705b, 0x3e119408, 0x3f5683c7}, 0x3fe70be6},
		{[]api.F{0xbf8b872b, 0x3d8d8c3a, 0xbf2fffa2, 0x3ef40622, 0x3fca7534, 0x3e7b85e0, 0xbe21ac00, 0x3f819de1}, 0x40b02b41},
	})
	holdNaNs(t, "Squares", Squares)
}

// TestNorm: V2.
func TestNorm(t *testing.T) {
	for _, r := range []struct {
		list [][]api.F
		want api.F
	}{
		{nil, 0},
		{[][]api.F{nil}, 0},
		{[][]api.F{{}, nil, {}}, 0},
		{[][]api.F{{minus}}, 0},
		{[][]api.F{{0xc0400000}}, 0x40400000},
		{[][]api.F{{0x40400000}, {0x40800000}}, 0x40a00000},
		{[][]api.F{nil, {0x40400000, 0x40800000}, {}}, 0x40a00000},
		{[][]api.F{{0x3f800000, 0x3f800000}}, 0x3fb504f3},
		{[][]api.F{{0x5f800000}, {0}}, plusInf},
		{[][]api.F{{minusInf}, {0x3f800000}}, plusInf},
		{[][]api.F{{0x1a000000}, {0x1a000000}}, 0},
		{[][]api.F{{0x3f4585db, 0xbee62215, 0xbecd472a}, {0xbe0d9b5f, 0xbf07d232}}, 0x3f8f9b33},
		{[][]api.F{{0x3f7b37a1, 0x3ea630e0}, {0x3f2bab7d, 0xbeee74cd, 0x3e326370}}, 0x3faa10e6},
		{[][]api.F{{0x3faaf8db, 0x3edb7e24}, {0x3e68dff1, 0x3fcb9ad2}, {0xbe83660d, 0xbf271206}}, 0x400fb3ec},
		{[][]api.F{{0x3fcd9112}, {0xbea356a6, 0x3e8df789, 0xbefb80ab, 0xbdedf01d}, {0x3f66f216}}, 0x3ffa62e0},
	} {
		if got := Norm(r.list...); got != r.want {
			t.Errorf("Norm(%08x) = %08x, want %08x", r.list, got, r.want)
		}
	}
	for place := range 3 {
		holdNaNs(t, "Norm", func(a []api.F) api.F {
			list := [][]api.F{{0x3f800000}, {0x40000000, minus}, {}}
			list[place] = a
			return Norm(list...)
		})
	}
}

// TestDot: V2.
func TestDot(t *testing.T) {
	for _, r := range []struct {
		a, b []api.F
		want api.F
	}{
		{nil, nil, 0},
		{nil, []api.F{}, 0},
		{[]api.F{minus}, []api.F{0x3f800000}, 0},
		{[]api.F{0x40400000}, []api.F{0xc0000000}, 0xc0c00000},
		{[]api.F{0x3f800000, 0x40000000}, []api.F{0x40400000, 0x40800000}, 0x41300000},
		{[]api.F{0x4b800000, 0x3f800000, 0x3f800000}, []api.F{0x3f800000, 0x3f800000, 0x3f800000}, 0x4b800000},
		{[]api.F{0x3f800000, 0x3f800000, 0x4b800000}, []api.F{0x3f800000, 0x3f800000, 0x3f800000}, 0x4b800001},
		{[]api.F{0x7f7fffff, 0x7f7fffff}, []api.F{0x40000000, 0xc0000000}, nan}, // both products beyond the greatest number
		{[]api.F{0, 0x3f800000}, []api.F{minusInf, 0x3f800000}, nan},
		{[]api.F{0x3f800000, 0xbf800000}, []api.F{plusInf, 0}, plusInf},
		{[]api.F{0x00000001, 0x00000001}, []api.F{0x3f000000, 0x3f000000}, 0},
		{[]api.F{0x3dabca03, 0xbe2fe4df}, []api.F{0xbea1b3e1, 0xbebdf238}, 0x3d188209},
		{[]api.F{0xbf75242c, 0xbe4c0425, 0x3f86a662}, []api.F{0xbec7d601, 0x3dba5ab7, 0x3fbf47bf}, 0x3ff6bcb4},
		{[]api.F{0xbd835404, 0xbf0f08b9, 0x3fce3fda, 0x3fc9dcc1, 0x3ff97987}, []api.F{0xbdda56d6, 0x3f8be10e, 0x3ddb9f17, 0x3ed30e46, 0xbfdc454d}, 0xc048a19b},
		{
			[]api.F{0xbfd1594c, 0xbea45ea2, 0x3eba74b0, 0x3f6117a4, 0xbf8c9679, 0x3f99f2c7, 0x3db8fcb8, 0xbe1112b9},
			[]api.F{0x3e524015, 0x3f20e614, 0xbf6dbc0c, 0xbe66a4f3, 0xbf0d77fb, 0x3ff1487c, 0x3ed94f17, 0x3fdc3cc6},
			0x3fcc24bb,
		},
	} {
		got, err := Dot(r.a, r.b)
		turned, err2 := Dot(r.b, r.a)
		if err != api.OK || err2 != api.OK || got != r.want || turned != r.want {
			t.Errorf("Dot(%08x, %08x) = %08x, error %d; turned round %08x, error %d; want %08x", r.a, r.b, got, err, turned, err2, r.want)
		}
	}
	holdNaNs(t, "Dot", func(a []api.F) api.F {
		got, _ := Dot(a, numbered(0, len(a)))
		return got
	})
	holdNaNs(t, "Dot", func(a []api.F) api.F {
		got, _ := Dot(make([]api.F, len(a)), a)
		return got
	})
}

// TestDotUnlike: V2, a vector of one element goes with no other length here.
func TestDotUnlike(t *testing.T) {
	lengths := []int{0, 1, 2, 3, api.MaxLen}
	for _, a := range lengths {
		for _, b := range lengths {
			if a == b {
				continue
			}
			if got, err := Dot(numbered(1, a), numbered(2, b)); err != api.ErrShape || got != 0 {
				t.Errorf("Dot of %d and %d elements: %08x, error %d", a, b, got, err)
			}
		}
	}
}

// TestMean: V2.
func TestMean(t *testing.T) {
	holdTold(t, "Mean", Mean, []told{
		{nil, nan},
		{[]api.F{}, nan},
		{[]api.F{minus}, 0},
		{[]api.F{minus, minus}, 0},
		{[]api.F{0xbf800000}, 0xbf800000},
		{[]api.F{0x3f800000, 0x40000000}, 0x3fc00000},
		{[]api.F{0x3f800000, 0, 0}, 0x3eaaaaab},
		{[]api.F{0x7f7fffff, 0x7f7fffff}, plusInf},
		{[]api.F{0x80000001, 0}, minus},
		{[]api.F{minusInf, 0x3f800000}, minusInf},
		{[]api.F{plusInf, minusInf}, nan},
		{[]api.F{0xbe521483, 0x3ee933fe, 0x3de422a9}, 0x3df6eddd},
		{[]api.F{0x3fc84958, 0x3d3a664b, 0xbc37a495, 0x3c524797, 0xbc6fd411}, 0x3ea38e86},
		{[]api.F{0x3d415d8c, 0x3f45672a, 0xbc8c2b0e, 0x3f7c3534, 0xbf4c4063, 0xbe7e0608, 0x3d14707e}, 0x3de33dba},
		{[]api.F{0xbfcb72e6, 0xbed576d4, 0x3c91fba9, 0x3df27a3e, 0x3dcf0975, 0x3dbf2973, 0x3f656b42, 0x3d4d010d, 0x3f1b0f66, 0xbfdbe27d}, 0xbe3c9596},
	})
	holdNaNs(t, "Mean", Mean)
}

// TestMeanLong: V2, a length that is itself rounded: divided by the length as it is, it would be 3f7fffff.
func TestMeanLong(t *testing.T) {
	if testing.Short() {
		t.Skip("it takes 64 MiB")
	}
	list := make([]api.F, 1<<24+1)
	for i := range list {
		list[i] = 0x3f800000
	}
	if got := Mean(list); got != 0x3f800000 {
		t.Errorf("Mean of 2^24 + 1 ones: %08x", got)
	}
}

// TestOfOne: V2, what one element gives.
func TestOfOne(t *testing.T) {
	for _, a := range append(samples.Edges(), samples.NaNs()...) {
		list := []api.F{a}
		square := float.Mul(a, a)
		sum := a
		if samples.IsNought(a) {
			sum = 0
		}
		if samples.IsNaN(a) {
			sum = nan
		}
		dot, err := Dot(list, list)
		if Sum(list) != sum || Mean(list) != sum || Squares(list) != square || dot != square || err != api.OK || Norm(list) != float.Sqrt(square) {
			t.Errorf("of %08x alone: Sum %08x, Mean %08x, Squares %08x, Dot %08x, Norm %08x", a, Sum(list), Mean(list), Squares(list), dot, Norm(list))
		}
	}
}
