package mealy

import (
	"slices"
	"testing"

	"lathe/api"
	"lathe/bits"
	"lathe/samples"
)

// once is the answer of a program's first step.
func once(t *testing.T, text string, list []api.Param, grads, params [][]api.F) [][]api.F {
	t.Helper()
	x := typed(t, text, list)
	m, w := machine(t, x, list), wordsOf(x, list)
	c := m.Clone()
	holdStep(t, m, w, grads, params)
	return stepped(t, c, grads, params)
}

// An edge is a program's first step with given vectors.
type edge struct {
	text                string
	grads, params, want [][]api.F
}

func holdEdges(t *testing.T, list []api.Param, edges []edge) {
	t.Helper()
	for _, e := range edges {
		if got := once(t, e.text, list, e.grads, e.params); !same(got, e.want) {
			t.Errorf("%s of %08x, %08x: %08x, want %08x", e.text, e.grads, e.params, got, e.want)
		}
	}
}

// plane are a real parameter of two elements, and a complex one of one: 3 and 4 are a norm of 5 in each.
func plane() []api.Param {
	return []api.Param{{Name: "w", Kind: 1, Len: 2}, {Name: "z", Kind: 2, Len: 1}}
}

// TestNormsAtTheEdge: ME3, TxGlobalNorm, TxBlockNorm and TxSkipLarge with a norm below d, d itself, above it, and a NaN.
func TestNormsAtTheEdge(t *testing.T) {
	w, z := []api.F{three, four}, []api.F{0x40c00000, 0x41000000} // norms 5 and 10
	five := [][]api.F{w, {0, minus}}
	far := [][]api.F{{0x41400000, 0x420c0000}, {0, minus}}  // 12 and 35: 37
	near := [][]api.F{{0x413fffff, 0x420c0000}, {0, minus}} // divided by 37 and times 37, which is not quite the same
	none := [][]api.F{{0, 0}, {0, 0}}
	bad := [][]api.F{{three, 0x7f800001}, {one, two}}
	huge := [][]api.F{{three, inf}, {0xff800000, two}}
	tenths := [][]api.F{{0x3f19999a, 0x3f4ccccd}, {0, minus}} // 0.6 and 0.8
	holdEdges(t, plane(), []edge{
		{"clip_by_global_norm(37.000004)", far, none, far}, // the next number behind 37
		{"clip_by_global_norm(37.0)", far, none, near},
		{"clip_by_global_norm(1.0)", five, none, tenths},
		{"clip_by_global_norm(1.0)", none, none, none},
		{"clip_by_global_norm(100.0)", bad, none, [][]api.F{{nan, nan}, {nan, nan}}},
		{"clip_by_global_norm(100.0)", huge, none, [][]api.F{{0, nan}, {nan, 0}}},
		{"clip_by_block_norm(5.0000005)", [][]api.F{w, z}, none, [][]api.F{w, {0x40400002, 0x40800001}}},
		{"clip_by_block_norm(37.000004)", far, none, far},
		{"clip_by_block_norm(37.0)", far, none, near},
		{"clip_by_block_norm(37.000004)", [][]api.F{{0, minus}, far[0]}, none, [][]api.F{{0, minus}, far[0]}},
		{"clip_by_block_norm(37.0)", [][]api.F{{0, minus}, far[0]}, none, [][]api.F{{0, minus}, near[0]}},
		{"clip_by_block_norm(5.0)", bad, none, [][]api.F{{nan, nan}, {one, two}}},
		{"clip_by_block_norm(5.0)", huge, none, [][]api.F{{0, nan}, {nan, 0}}},
		{"skip_large(scale(2), 5.0000005)", five, none, [][]api.F{{0x40c00000, 0x41000000}, {0, minus}}},
		{"skip_large(scale(2), 5.0)", five, none, none},
		{"skip_large(scale(2), 4.9999995)", five, none, none},
		{"skip_large(scale(2), 100.0)", bad, none, none},
		{"skip_large(scale(2), 100.0)", huge, none, none},
		{"skip_large(scale(2), 1e-45)", [][]api.F{{minus, 0}, {0, minus}}, none, [][]api.F{{minus, 0}, {0, minus}}},
		{"normalize_by_update_norm(2.0, 0.0)", five, none, [][]api.F{{0x3f99999a, 0x3fcccccd}, {0, minus}}},
		{"normalize_by_update_norm(2.0, 0.0)", none, none, [][]api.F{{nan, nan}, {nan, nan}}},
		{"normalize_by_update_norm(2.0, 5.0)", five, none, [][]api.F{{0x3f19999a, 0x3f4ccccd}, {0, minus}}},
	})
	for _, text := range []string{"clip_by_global_norm(", "clip_by_block_norm("} {
		for norm, want := range map[api.F]api.F{0x3f7fffff: 0x3f7fffff, one: one, 0x3f800001: one} {
			for _, s := range []api.F{0, minus} {
				got := once(t, text+"1.0)", real1(), [][]api.F{{norm | s}}, [][]api.F{{zero}})
				if got[0][0] != want|s {
					t.Errorf("%s1.0) of %08x: %08x", text, norm|s, got)
				}
			}
		}
	}
}

// TestAdaptiveAtTheEdge: ME3, TxAdaptive with a norm below a, a itself, above it, and NaNs; what is below 1e-6 counts as that.
func TestAdaptiveAtTheEdge(t *testing.T) {
	w := []api.F{three, four}
	z := []api.F{0, minus}
	far := []api.F{0x41400000, 0x420c0000} // 12 and 35: 37
	holdEdges(t, plane(), []edge{
		{"adaptive_grad_clip(1.0)", [][]api.F{far, z}, [][]api.F{far, {0, 0}}, [][]api.F{{0x413fffff, 0x420c0000}, z}},
		{"adaptive_grad_clip(1.0000002)", [][]api.F{far, z}, [][]api.F{far, {0, 0}}, [][]api.F{far, z}},
		{"adaptive_grad_clip(0.2)", [][]api.F{w, {four, three}}, [][]api.F{w, {0, 0}}, [][]api.F{{0x3f19999a, 0x3f4ccccd}, {0x3927c5ad, 0x38fba884}}},
		{"adaptive_grad_clip(1.0)", [][]api.F{{three, nan}, {one, one}}, [][]api.F{w, {0xffc00001, 0}}, [][]api.F{{nan, nan}, {nan, nan}}},
		{"adaptive_grad_clip(1.0, 0.0)", [][]api.F{{0, minus}, {0, minus}}, [][]api.F{{0, 0}, {0, 0}}, [][]api.F{{0, minus}, {0, minus}}},
	})
	small := [][]api.F{{0x322bcc77}} // 1e-8
	for _, c := range []struct{ text, name string }{{"adaptive_grad_clip(1.0, 1e-9)", "above"}, {"adaptive_grad_clip(1.0, 1e-7)", "below"}} {
		got := once(t, c.text, real1(), small, [][]api.F{{zero}})
		want := api.F(0x322bcc77)
		if c.name == "above" {
			want = 0x2d2febfe // (1e-8 / 1e-6)·1e-9
		}
		if got[0][0] != want {
			t.Errorf("%s: %08x, want %08x", c.text, got[0][0], want)
		}
	}
}

// TestNonnegativeAtTheEdge: ME3, TxNonnegative where p + g is below 0, a nought, above 0 and a NaN.
func TestNonnegativeAtTheEdge(t *testing.T) {
	holdRuns(t, []run{{
		"keep_params_nonnegative()",
		[]api.F{0xbf800000, 0xbf800001, 0xbf7fffff, minus, 0, 0x80000001, 1, nan, one, 0xff800000, inf, inf, 0xff800000, 0x80000001},
		[]api.F{one, one, one, minus, minus, 0, 0x80000001, one, 0xffc00001, one, one, 0xff800000, inf, 0x80000001},
		[]api.F{0xbf800000, 0xbf800000, 0xbf7fffff, minus, 0, minus, 1, nan, one, 0xbf800000, inf, inf, 0xff800000, 1},
	}})
}

// TestSigns: ME3, sign of numbers, both noughts and NaNs, of TxSign and of TxLion.
func TestSigns(t *testing.T) {
	grads := []api.F{two, 0xc0000000, 0, minus, 1, 0x80000001, inf, 0xff800000, nan, 0xff800001, most}
	want := []api.F{one, 0xbf800000, 0, minus, one, 0xbf800000, one, 0xbf800000, nan, nan, one}
	holdRuns(t, []run{{"scale_by_sign()", grads, nil, want}})
	for i, g := range grads {
		x := api.Tx{Op: 15, Nums: []api.F{half, half}}
		m := machine(t, x, real1())
		told := want[i]
		switch g {
		case minus, 0x80000001, 1:
			told = 0 // half of it is nought, or rounded to it, and +0 is added
		}
		if got := stepped(t, m, [][]api.F{{g}}, [][]api.F{{zero}}); got[0][0] != told {
			t.Errorf("lion of %08x: %08x, want %08x", g, got[0][0], told)
		}
	}
}

// TestYogiSigns: ME3, v goes down where it is above q, up where it is below, and stays where it is the same.
func TestYogiSigns(t *testing.T) {
	holdRuns(t, []run{ // b1 0, eps 0: u = g / sqrt(v / (1 - 0.5^c)), v at first 4
		{"scale_by_yogi(0.0, 0.5, 0.0, 4.0)", []api.F{two, one}, nil, []api.F{0x3f3504f3, 0x3eed028c}},
		{"scale_by_yogi(0.0, 0.5, 0.0, 4.0)", []api.F{one, one}, nil, []api.F{0x3ec18490, 0x3f000000}},
		{"scale_by_yogi(0.0, 0.5, 0.0, 4.0)", []api.F{four, one}, nil, []api.F{0x3f5105eb, 0x3e82c0c5}},
	})
}

// TestRssAtTheEdge: ME3, TxRss answers +0 where s' is 0 or a NaN, in both parts; the least number above 0 is above it.
func TestRssAtTheEdge(t *testing.T) {
	none := [][]api.F{{0, 0}, {0, 0}}
	holdEdges(t, plane(), []edge{
		{"scale_by_rss(0.0, 0.0)", [][]api.F{{minus, two}, {minus, minus}}, none, [][]api.F{{0, one}, {0, 0}}},
		{"scale_by_rss(0.0, 1.0)", [][]api.F{{minus, 0x0d000000}, {0x1a800000, minus}}, none, [][]api.F{{0, 0}, {0x1a800000, minus}}},
		{"scale_by_rss(0.0, 1.0)", [][]api.F{{nan, inf}, {one, 0xffc00000}}, none, [][]api.F{{0, nan}, {0, 0}}},
		{"scale_by_rss(1.0, 0.0)", [][]api.F{{minus, nan}, {0, minus}}, none, [][]api.F{{minus, 0}, {0, minus}}},
	})
}

// TestTrustAtTheEdge: ME3, TxTrust is 1 where a or b is a nought, also with a NaN beside it; else the ratio.
func TestTrustAtTheEdge(t *testing.T) {
	holdRuns(t, []run{
		{"scale_by_trust_ratio()", []api.F{two, two, 0, minus, nan, 0, two, inf, 0xc0000000}, []api.F{four, 0, four, four, 0, nan, nan, two, minus}, []api.F{four, two, 0, minus, nan, 0, nan, nan, 0xc0000000}},
		{"scale_by_trust_ratio(0.0, 3.0, 2.0)", []api.F{two, two, 0, two}, []api.F{four, minus, 1, 0x80000001}, []api.F{0x40c00000, two, 0, two}},
		{"scale_by_trust_ratio(1.0, 1.0)", []api.F{0, minus, two, half, two, 1}, []api.F{0, two, 0, 0, four, four}, []api.F{0, minus, one, half, four, 0x00000004}},
		{"scale_by_trust_ratio(1e-45)", []api.F{0, 1}, []api.F{0, 0}, []api.F{0, 1}},
	})
}

// TestBounds: ME3, TxClip and TxBox at their ends, with noughts and NaNs; where low is above high, high it is.
func TestBounds(t *testing.T) {
	holdRuns(t, []run{
		{"clip(1.0)", []api.F{one, 0x3f800001, 0xbf800001, 0x3f7fffff, inf, 0xff800000, nan, minus, 0}, nil, []api.F{one, one, 0xbf800000, 0x3f7fffff, one, 0xbf800000, nan, minus, 0}},
		{"clip(0.0)", []api.F{one, 0xbf800000, minus, 0, nan}, nil, []api.F{0, minus, minus, 0, nan}},
		{"keep_params_in_box(-1.0, 2.0)", []api.F{one, two, 0xc0400000, 0, nan, inf, 0xff800000}, nil, []api.F{one, one, 0xc0000000, 0, nan, one, 0xc0000000}},
		{"keep_params_in_box(2.0, -1.0)", []api.F{one, 0xc1000000, inf}, nil, []api.F{0xc0000000, 0xc0000000, 0xc0000000}},
		{"keep_params_in_box(-1.0, 2.0)", []api.F{one, one}, []api.F{inf, nan}, []api.F{0xff800000, nan}},
	})
}

// TestZeroNans: ME3, +0 in the place of each NaN, of a complex element each part by itself; all else is as it was.
func TestZeroNans(t *testing.T) {
	for _, bad := range append(samples.NaNs(), nan) {
		grads := [][]api.F{{bad, minus}, {bad, inf}}
		if got := once(t, "zero_nans()", plane(), grads, grads); !same(got, [][]api.F{{0, minus}, {0, inf}}) {
			t.Errorf("%08x: %08x", bad, got)
		}
		grads = [][]api.F{{0xff800000, 1}, {minus, bad}}
		if got := once(t, "zero_nans()", plane(), grads, grads); !same(got, [][]api.F{{0xff800000, 1}, {minus, 0}}) {
			t.Errorf("%08x: %08x", bad, got)
		}
	}
}

// TestCentralize: ME3, of one element it is as it was, of several the mean is taken away, in order; of the parts of complex ones each by itself.
func TestCentralize(t *testing.T) {
	big := api.F(0x4b800000) // 2^24, where a 1 more is rounded away
	list := mixed()
	holdEdges(t, list, []edge{
		{"centralize()", [][]api.F{{one, two, 0x40c00000}, {one, two, three, four}, {three}, {three, four}}, [][]api.F{{0, 0, 0}, {0, 0, 0, 0}, {0}, {0, 0}},
			[][]api.F{{0xc0000000, 0xbf800000, three}, {0xbf800000, 0xbf800000, one, one}, {three}, {three, four}}},
		{"centralize()", [][]api.F{{big, one, one}, {inf, one, one, one}, {inf}, {nan, minus}}, [][]api.F{{0, 0, 0}, {0, 0, 0, 0}, {0}, {0, 0}},
			[][]api.F{{0x4b2aaaaa, 0xcaaaaaa9, 0xcaaaaaa9}, {nan, 0, 0xff800000, 0}, {inf}, {nan, minus}}},
		{"centralize()", [][]api.F{{one, one, big}, {minus, nan, minus, two}, {minus}, {0, 0}}, [][]api.F{{0, 0, 0}, {0, 0, 0, 0}, {0}, {0, 0}},
			[][]api.F{{0xcaaaaaaa, 0xcaaaaaaa, 0x4b2aaaaa}, {minus, nan, minus, nan}, {minus}, {0, 0}}},
	})
}

// TestTotalsInOrder: ME3, a piece's total is a sum strictly in order, and those of several pieces are added in order, each by itself.
func TestTotalsInOrder(t *testing.T) {
	list := []api.Param{{Name: "a", Kind: 1, Len: 5}, {Name: "b", Kind: 1, Len: 1}, {Name: "c", Kind: 1, Len: 1}, {Name: "d", Kind: 1, Len: 1}, {Name: "e", Kind: 1, Len: 1}}
	big := api.F(0x45800000) // 2^12: its square is 2^24, where a 1 more is rounded away, but four of them together are not
	none := [][]api.F{times(5, 0), {0}, {0}, {0}, {0}}
	for _, c := range []struct {
		grads [][]api.F
		norm  api.F // of all
		first api.F // of the first piece
	}{
		{[][]api.F{{big, one, one, one, one}, {0}, {0}, {0}, {0}}, big, big},
		{[][]api.F{{one, one, one, one, big}, {0}, {0}, {0}, {0}}, big + 1, big + 1},
		{[][]api.F{{one, one, one, one, 0}, {0}, {big}, {0}, {0}}, big + 1, two},
		{[][]api.F{{0, 0, 0, 0, big}, {one}, {one}, {one}, {one}}, big, big},
		{[][]api.F{{0, 0, one, 0, 0}, {one}, {one}, {one}, {big}}, big + 1, one},
		{[][]api.F{{big, 0, 0, 0, 0}, {two}, {0}, {0}, {0}}, big + 1, big},
	} {
		got := once(t, "chain(normalize_by_update_norm(1.0, 0.0))", list, c.grads, none)
		for i := range got {
			for j, a := range got[i] {
				if want := pattern(div(number(c.grads[i][j]), number(c.norm))); a != want {
					t.Errorf("%08x: the norm is not %08x: %08x, want %08x", c.grads, c.norm, a, want)
				}
			}
		}
		got = once(t, "scale_by_param_block_norm(0.0)", list, c.grads, c.grads)
		for j, a := range got[0] {
			if want := pattern(mul(number(c.first), number(c.grads[0][j]))); a != want {
				t.Errorf("%08x: the first norm is not %08x: %08x, want %08x", c.grads, c.first, a, want)
			}
		}
	}
}

// TestLengths: ME3, len is how many elements the piece has: of a complex one half as many as it has numbers, also within a split.
func TestLengths(t *testing.T) {
	list := []api.Param{{Name: "w", Kind: 1, Len: 4}, {Name: "z", Kind: 2, Len: 2}, {Name: "a", Kind: 1, Len: 1}}
	ones := [][]api.F{times(4, one), times(4, one), times(1, one)}
	root := api.F(0x3fb504f3) // of two: the mean square of complex ones
	holdEdges(t, list, []edge{
		{"scale_by_param_block_rms()", ones, ones, [][]api.F{times(4, one), times(4, root), times(1, one)}},
		{"split_real_and_imaginary(scale_by_param_block_rms())", ones, ones, ones},
		{"clip_by_block_rms(0.5)", ones, ones, [][]api.F{times(4, half), times(4, 0x3eb504f3), times(1, half)}},
		{"split_real_and_imaginary(clip_by_block_rms(0.5))", ones, ones, [][]api.F{times(4, half), times(4, half), times(1, half)}},
		{"clip_by_block_rms(1.0)", ones, ones, [][]api.F{times(4, one), times(4, 0x3f3504f3), times(1, one)}},
		{"clip_by_block_rms(2.0)", ones, ones, ones},
		{"scale_by_param_block_rms(3.0)", ones, ones, [][]api.F{times(4, three), times(4, three), times(1, three)}},
		{"scale_by_param_block_norm(3.0)", ones, ones, [][]api.F{times(4, three), times(4, three), times(1, three)}},
		{"scale_by_param_block_norm()", ones, ones, [][]api.F{times(4, two), times(4, two), times(1, one)}},
	})
}

// TestAllPairsOfEdges: ME3 and P12, each row with each pair of edges as gradient and parameter, real and complex, for two steps.
func TestAllPairsOfEdges(t *testing.T) {
	r := growerOf(31)
	edges := slices.Concat(samples.Edges(), []api.F{0x80000003, 0x20000000, 0xe0000000})
	list := []api.Param{{Name: "w", Kind: 1, Len: 1}, {Name: "z", Kind: 2, Len: 1}}
	for _, s := range samples.Rows() {
		if s.Kids > 0 {
			continue
		}
		x := r.Transform(s, 1, 2)
		if s.Star {
			x = api.Tx{Op: 28, Kids: []api.Tx{x}}
		}
		for _, g := range edges {
			for _, p := range edges {
				m, w := machine(t, x, list), wordsOf(x, list)
				holdStep(t, m, w, [][]api.F{{g}, {p, g}}, [][]api.F{{p}, {g, p}})
				holdStep(t, m, w, [][]api.F{{p}, {one, g}}, [][]api.F{{g}, {p, bits.Canon(g)}})
			}
		}
	}
}
