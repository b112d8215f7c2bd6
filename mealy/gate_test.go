package mealy

import (
	"fmt"
	"testing"

	"lathe/api"
	"lathe/samples"
)

// whole is a whole number as a pattern.
func whole(n int) api.F { return pattern(float32(n)) }

// wholes are whole numbers as patterns.
func wholes(list ...int) []api.F {
	var out []api.F
	for _, n := range list {
		out = append(out, whole(n))
	}
	return out
}

// TestRounds: ME3, TxMultiSteps and TxEvery with 1, 2 and more steps, about each end of a round: the mean or the sum at its end, +0 ahead of it,
// and a new round from nothing.
func TestRounds(t *testing.T) {
	for k := 1; k <= 6; k++ {
		mean := machine(t, typed(t, fmt.Sprintf("multi_steps(%d, scale(2))", k), real1()), real1())
		sum := machine(t, typed(t, fmt.Sprintf("apply_every(%d)", k), real1()), real1())
		for i := range 4 * k {
			round := i / k
			g := [][]api.F{{whole(60 * (round + 1))}}
			wantMean, wantSum := zero, zero
			if i%k == k-1 {
				wantMean, wantSum = whole(120*(round+1)), whole(60*(round+1)*k)
			}
			if got := stepped(t, mean, g, g); got[0][0] != wantMean {
				t.Errorf("multi_steps(%d): step %d: %08x, want %08x", k, i, got, wantMean)
			}
			if got := stepped(t, sum, g, g); got[0][0] != wantSum {
				t.Errorf("apply_every(%d): step %d: %08x, want %08x", k, i, got, wantSum)
			}
		}
	}
	holdRuns(t, []run{
		{"multi_steps(4, identity())", wholes(8, 4, 3, 1, -8, -4, -3, -1), nil, wholes(0, 0, 0, 4, 0, 0, 0, -4)},
		{"multi_steps(3, identity())", []api.F{one, zero, zero, one, two, two}, nil, []api.F{0, 0, 0x3eaaaaaa, 0, 0, 0x3fd55555}},
		{"multi_steps(1, identity())", []api.F{one, minus, nan, 0x80000001}, nil, []api.F{one, zero, nan, 0x80000001}},
		{"multi_steps(2, identity())", []api.F{nan, one, one, one, inf, one, minus, minus}, nil, []api.F{0, nan, 0, one, 0, nan, 0, zero}},
		{"multi_steps(2, identity())", []api.F{most, 0xff7fffff, most, most}, nil, []api.F{0, 0xff800000, 0, most}},
		{"apply_every(1)", []api.F{one, minus, nan, 0xffc00000}, nil, []api.F{one, zero, nan, nan}},
		{"apply_every(2)", []api.F{minus, minus, nan, one, one, two, most, most}, nil, []api.F{0, zero, 0, nan, 0, three, 0, inf}},
		{"apply_every(3)", wholes(1, 2, 4, 8, 16, 32, 64), nil, wholes(0, 0, 7, 0, 0, 56, 0)},
	})
}

// TestLongRounds: ME3, a round of MaxCount steps does not end soon, and its kid is not asked.
func TestLongRounds(t *testing.T) {
	for _, text := range []string{"multi_steps(2147483647, scale(2))", "apply_every(2147483647)"} {
		m := machine(t, typed(t, text, real1()), real1())
		for range 3 {
			m.Jump(maxCount)
			for i := range 100 {
				if got := stepped(t, m, [][]api.F{{one}}, [][]api.F{{one}}); got[0][0] != 0 {
					t.Errorf("%s: step %d: %08x", text, i, got)
				}
			}
		}
	}
}

// TestRoundsOfKids: ME3, the kid of TxMultiSteps is asked at the ends of rounds alone, with the parameters of that step; what it keeps
// goes on there.
func TestRoundsOfKids(t *testing.T) {
	holdRuns(t, []run{
		{"multi_steps(2, trace(1.0))", times(8, one), nil, wholes(0, 1, 0, 2, 0, 3, 0, 4)},
		{"multi_steps(2, " + line + ")", times(8, one), nil, wholes(0, 0, 0, 1, 0, 2, 0, 3)},
		{"multi_steps(2, add_decayed_weights(1.0))", times(4, one), wholes(10, 20, 30, 40), wholes(0, 21, 0, 41)},
		{"multi_steps(2, multi_steps(2, scale(3)))", wholes(1, 3, 5, 7, 2, 2, 4, 4), nil, wholes(0, 0, 0, 12, 0, 0, 0, 9)},
		{"multi_steps(2, apply_every(2))", wholes(1, 3, 5, 7, 2, 2, 4, 4), nil, wholes(0, 0, 0, 8, 0, 0, 0, 6)},
		{"chain(apply_every(2), trace(1.0))", wholes(1, 2, 3, 4), nil, wholes(0, 3, 3, 10)},
		{"chain(trace(1.0), apply_every(2))", wholes(1, 2, 3, 4), nil, wholes(0, 4, 0, 16)},
	})
}

// TestIfFinite: ME3, about k: a step that is not finite is left out, k of them behind one another; one that is finite begins anew.
func TestIfFinite(t *testing.T) {
	x := nan
	for _, bad := range append(samples.NaNs(), nan, inf, 0xff800000) {
		told := bad
		if samples.IsNaN(bad) {
			told = nan
		}
		holdRuns(t, []run{
			{"apply_if_finite(identity(), 0)", []api.F{bad, one, bad, bad}, nil, []api.F{told, one, told, told}},
			{"apply_if_finite(identity(), 1)", []api.F{bad, bad, bad, one, bad, bad, one, bad, one, bad}, nil, []api.F{0, told, told, one, 0, told, one, 0, one, 0}},
			{"apply_if_finite(identity(), 2)", []api.F{bad, bad, one, bad, bad, bad, bad, minus, bad}, nil, []api.F{0, 0, one, 0, 0, told, told, minus, 0}},
			{"apply_if_finite(identity(), 2147483647)", []api.F{bad, bad, one, bad, bad}, nil, []api.F{0, 0, one, 0, 0}},
		})
	}
	holdRuns(t, []run{
		{"apply_if_finite(trace(1.0), 1)", []api.F{one, x, one, x, one, most}, nil, []api.F{one, 0, two, 0, three, most}},
		{"apply_if_finite(trace(1.0), 1)", []api.F{one, x, x, one, one}, nil, []api.F{one, 0, nan, nan, nan}},
		{"apply_if_finite(" + line + ", 1)", []api.F{one, x, one, x, one, x, x, one}, nil, []api.F{0, 0, one, 0, two, 0, nan, four}},
		{"apply_if_finite(apply_if_finite(identity(), 1), 1)", times(6, x), nil, []api.F{0, 0, x, x, x, x}},
		{"chain(zero_nans(), apply_if_finite(scale(2), 1))", []api.F{x, one, x}, nil, []api.F{0, two, 0}},
		{"apply_if_finite(zero_nans(), 1)", []api.F{x, x, one}, nil, []api.F{0, 0, one}},
	})
}

// TestIfFiniteLooksEverywhere: ME3, all numbers of all pieces are asked, of complex ones both parts; those that the kid has not too.
func TestIfFiniteLooksEverywhere(t *testing.T) {
	ones := func() [][]api.F { return [][]api.F{times(3, one), times(4, one), times(1, one), times(2, one)} }
	none := [][]api.F{times(3, 0), times(4, 0), times(1, 0), times(2, 0)}
	for _, text := range []string{"apply_if_finite(identity(), 5)", "apply_if_finite(masked(none(), scale(2)), 5)", "split_real_and_imaginary(apply_if_finite(identity(), 5))"} {
		if got := once(t, text, mixed(), ones(), none); !same(got, ones()) {
			t.Errorf("%s: %08x", text, got)
		}
		for i, v := range ones() {
			for j := range v {
				for _, bad := range []api.F{nan, inf, 0xff800000, 0xffc00001} {
					grads := ones()
					grads[i][j] = bad
					if got := once(t, text, mixed(), grads, none); !same(got, none) {
						t.Errorf("%s of %08x: %08x", text, grads, got)
					}
					if got := once(t, text, mixed(), ones(), grads); !same(got, ones()) {
						t.Errorf("%s with parameters %08x: %08x", text, grads, got)
					}
				}
			}
		}
	}
	grads := ones() // within a mask only its own are asked
	grads[0][1] = nan
	want := ones()
	want[0] = []api.F{one, nan, one}
	if got := once(t, `masked("a", apply_if_finite(identity(), 5))`, mixed(), grads, none); !same(got, want) {
		t.Errorf("%08x", got)
	}
}

// TestErrorsAtMaxCount: ME3, the e of TxIfFinite stays at MaxCount.
func TestErrorsAtMaxCount(t *testing.T) {
	for _, most := range []int{maxCount, maxCount - 1} {
		x := api.Tx{Op: 27, Ints: []int{most}, Kids: []api.Tx{{Op: 1}}}
		m := machine(t, x, real1())
		m.top.(*ifFinite).errors = maxCount - 2 // nobody waits for so many steps
		want := []api.F{0, nan, nan, nan}
		if most == maxCount {
			want = []api.F{0, 0, 0, 0}
		}
		for i := range want {
			if got := stepped(t, m, [][]api.F{{nan}}, [][]api.F{{one}}); got[0][0] != want[i] {
				t.Errorf("%d: step %d: %08x, want %08x", most, i, got, want[i])
			}
		}
	}
}

// TestUntil: ME3, about k; the kid that is not asked keeps what it keeps.
func TestUntil(t *testing.T) {
	holdRuns(t, []run{
		{"until(1, scale(2), scale(3))", times(3, one), nil, wholes(2, 3, 3)},
		{"until(2, scale(2), scale(3))", times(4, one), nil, wholes(2, 2, 3, 3)},
		{"until(3, trace(1.0), trace(1.0))", times(6, one), nil, wholes(1, 2, 3, 1, 2, 3)},
		{"until(3, " + line + ", " + line + ")", times(6, one), nil, wholes(0, 1, 2, 0, 1, 2)},
		{"until(2147483647, scale(2), scale(3))", times(4, one), nil, wholes(2, 2, 2, 2)},
		{"until(2, until(1, scale(2), scale(3)), until(1, scale(4), scale(5)))", times(4, one), nil, wholes(2, 3, 4, 5)},
		{"multi_steps(2, until(1, scale(2), scale(3)))", times(6, one), nil, wholes(0, 2, 0, 3, 0, 3)},
	})
	m := machine(t, typed(t, "until(2147483647, trace(1.0), scale(-1))", real1()), real1())
	for i, want := range wholes(1, 2, -1, -1, 3) {
		switch i {
		case 2:
			m.Jump(maxCount)
		case 4:
			m.Jump(maxCount - 1)
		case 1:
			m.Jump(maxCount - 1)
		}
		if got := stepped(t, m, [][]api.F{{one}}, [][]api.F{{one}}); got[0][0] != want {
			t.Errorf("step %d: %08x, want %08x", i, got[0][0], want)
		}
	}
}

// TestSkipLarge: ME3, a kid that is not asked keeps what it keeps; the norm is that of all pieces.
func TestSkipLarge(t *testing.T) {
	holdRuns(t, []run{
		{"skip_large(trace(1.0), 3.0)", wholes(1, 3, 2, -3, -2, 4), nil, wholes(1, 0, 3, 0, 1, 0)},
		{"skip_large(" + line + ", 3.0)", []api.F{one, three, one, nan, one, inf, one}, nil, wholes(0, 0, 1, 0, 2, 0, 3)},
	})
	ones := [][]api.F{times(3, one), times(4, one), times(1, one), times(2, one)} // ten ones
	none := [][]api.F{times(3, 0), times(4, 0), times(1, 0), times(2, 0)}
	holdEdges(t, mixed(), []edge{
		{"skip_large(identity(), 3.1622779)", ones, none, ones}, // the next number behind the root of ten
		{"skip_large(identity(), 3.1622777)", ones, none, none},
		{`masked("w", skip_large(scale(2), 1.75))`, ones, none, [][]api.F{times(3, two), ones[1], ones[2], ones[3]}},
		{`masked("w", skip_large(scale(2), 1.7320508))`, ones, none, [][]api.F{none[0], ones[1], ones[2], ones[3]}},
	})
}

// TestScheduleAhead: ME3, the value is that of the count ahead of the step.
func TestScheduleAhead(t *testing.T) {
	holdRuns(t, []run{
		{line, times(4, one), nil, wholes(0, 1, 2, 3)},
		{"scale_by_schedule(0.5)", []api.F{one, nan, minus}, nil, []api.F{half, nan, minus}},
		{"scale_by_schedule(piecewise(2, 2, 3))", times(4, one), nil, wholes(2, 2, 6, 6)},
		{"chain(" + line + ", " + line + ")", times(4, one), nil, wholes(0, 1, 4, 9)},
	})
	m := machine(t, typed(t, "scale_by_schedule(piecewise(1, 2147483646, 2, 2147483647, 3))", real1()), real1())
	m.Jump(maxCount - 2)
	for i, want := range wholes(1, 2, 6, 6, 6) {
		if got := stepped(t, m, [][]api.F{{one}}, [][]api.F{{one}}); got[0][0] != want {
			t.Errorf("step %d: %08x, want %08x", i, got[0][0], want)
		}
	}
}
