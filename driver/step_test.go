package driver

import (
	"testing"

	"lathe/api"
	"lathe/samples"
)

// stranger are vectors that do not fit the signature w (real, 3), z (complex, 2), b/u (real, 1), b/y (complex, 1), each in a way of its own.
func stranger(list []api.Param) [][][]api.F {
	fit := fill(list, one)
	without := func(n int) [][]api.F { return append(append([][]api.F{}, fit[:n]...), fit[n+1:]...) }
	with := func(n, length int) [][]api.F {
		v := append([][]api.F{}, fit...)
		v[n] = make([]api.F, length)
		return v
	}
	return [][][]api.F{
		nil, {}, {nil}, make([][]api.F, 4), make([][]api.F, 3), make([][]api.F, 5), without(0), without(3), append(append([][]api.F{}, fit...), nil), append(append([][]api.F{}, fit...), []api.F{one}),
		with(0, 0), with(0, 2), with(0, 4), with(0, 6), with(1, 2), with(1, 3), with(1, 5), with(1, 8), with(2, 0), with(2, 2), with(3, 1), with(3, 3), with(3, 0), with(0, 1<<16), {fit[1], fit[0], fit[2], fit[3]}, {fit[0], fit[1], fit[3], fit[2]},
	}
}

// TestInput: DR2 and rule 2, vectors that do not fit, as gradients, as parameters, and as both: the error, and nothing beside it; the session and
// its count are as they were.
func TestInput(t *testing.T) {
	list := mixed()
	g := &samples.Grower{Source: 3}
	for _, passes := range []int{0, 8, 24, passAll} {
		s := session(t, "chain(scale_by_adam(), multi_steps(2, trace(0.5)))", list, passes)
		m := meant(t, "chain(scale_by_adam(), multi_steps(2, trace(0.5)))", list)
		for range 4 {
			count, ahead := s.Count(), s.Snapshot()
			fit := fill(list, two)
			for _, wrong := range stranger(list) {
				for _, args := range [][2][][]api.F{{wrong, fit}, {fit, wrong}, {wrong, wrong}} {
					if u, e := s.Step(args[0], args[1]); u != nil || e != errInput {
						t.Errorf("Step(%08x, %08x) = %08x, %d", args[0], args[1], u, e)
					}
				}
			}
			if s.Count() != count || s.Snapshot() != ahead {
				t.Errorf("count %d, was %d; %x, was %x", s.Count(), count, s.Snapshot(), ahead)
			}
			grads, params := anyVectors(g, list), anyVectors(g, list)
			want, _ := m.Step(grads, params)
			if u := stepped(t, s, grads, params); !same(u, want) {
				t.Errorf("%08x, want %08x", u, want)
			}
		}
	}
}

// TestAnyPatterns: DR2, P3 and rule 5, whatever comes in (NaNs of many patterns, infinities, noughts of both signs, subnormals): the machine's
// updates, step after step, with no NaN but the one that is told.
func TestAnyPatterns(t *testing.T) {
	list := mixed()
	edges := append(append(samples.Edges(), samples.NaNs()...), 0x7f800001, 0xff800001, 0x7fffffff, 0xffffffff, inf, 0xff800000, 0, minus, 1, 0x80000001, 0x007fffff, 0x807fffff)
	for _, text := range []string{
		"identity()", "scale(2)", "chain(zero_nans(), clip_by_global_norm(1.0), adam(0.1))", "masked(or(\"w\", complex()), trace(0.5, true))", "apply_if_finite(scale_by_novograd(), 2)",
		"split_real_and_imaginary(chain(clip(1.0), lion(0.1)))", "until(2, scale_by_amsgrad(), lamb(0.1))", "partition(\"b/*\", scale_by_yogi(), \"w\", centralize(), skip_large(trace(1.0), 4.0))",
	} {
		c := crowdOf(t, text, list)
		for n := range edges {
			grads, params := fill(list, edges[n]), fill(list, edges[(n*7+3)%len(edges)])
			for p := range list {
				grads[p][0], params[p][len(params[p])-1] = edges[(n*5+p)%len(edges)], edges[(n*3+p)%len(edges)]
			}
			c.step(t, grads, params)
			u := stepped(t, c.sessions[n%subsets].twin(t, c, n%subsets), grads, params)
			for _, v := range u {
				for _, a := range v {
					if !samples.IsTold(a) {
						t.Errorf("%s: %08x is told", text, a)
					}
				}
			}
		}
	}
}

// twin is another session like the one of a choice of the passes of a crowd.
func (s *Session) twin(t *testing.T, c *crowd, passes int) *Session {
	t.Helper()
	other := session(t, c.text, c.list, passes)
	restored(t, other, s.Snapshot())
	return other
}

// TestChoices: P3 and P5, two choices of the passes make the same updates in a long run.
func TestChoices(t *testing.T) {
	g := &samples.Grower{Source: 4}
	for n := range 12 {
		list := mixed()[n%4:]
		c := crowdOf(t, text(g, list, 3), list)
		c.steps(t, g, 40)
	}
}

// TestCount: DR2 and P9, the count at the beginning, behind steps and errors, and about the greatest one, where it stays and the session goes on.
func TestCount(t *testing.T) {
	list := real(1)
	for _, passes := range []int{0, passAll} {
		b := compiled(t, "ema(0.5)", list, passes)
		s := opened(t, b)
		for n := range 20 {
			if s.Count() != n {
				t.Errorf("count %d, want %d", s.Count(), n)
			}
			s.Step(fill(list, one), nil)
			s.Restore("LATHS")
			s.Snapshot()
			stepped(t, s, fill(list, one), fill(list, one))
		}
		_, state := numbersOf(s.Snapshot())
		for _, count := range []uint32{maxCount - 3, maxCount - 1, maxCount} {
			restored(t, s, snapshot(b, count, state...))
			m := meant(t, "ema(0.5)", list)
			for range 20 {
				m.Step(fill(list, one), fill(list, one))
			}
			for n := range 6 {
				if want := min(int(count)+n, maxCount); s.Count() != want {
					t.Errorf("count %d, want %d", s.Count(), want)
				}
				grads := fill(list, api.F(0x3f800000+n))
				want, _ := m.Step(grads, grads)
				if u := stepped(t, s, grads, grads); !same(u, want) {
					t.Errorf("behind %d: %08x, want %08x", s.Count(), u, want)
				}
			}
			if told, _ := numbersOf(s.Snapshot()); told != maxCount {
				t.Errorf("the snapshot's count is %d", told)
			}
		}
	}
}

// TestGreatestCount: P9, sessions of every choice of the passes, all of whose counts are about the greatest one, go on as the machine does.
func TestGreatestCount(t *testing.T) {
	g := &samples.Grower{Source: 9}
	for _, text := range []string{
		"adam(0.1)", "chain(ema(0.5), scale_by_schedule(linear(1.0, 0.0, 2147483647)))", "until(2147483647, scale(2), scale(3))", "scale_by_novograd()",
		"scale_by_schedule(join(1.0, 2147483646, cosine(1.0, 4)))", "scale_by_schedule(exponential(1.0, 2147483646, 0.5, 1))", "scale_by_schedule(after(2147483645, linear(1.0, 0.0, 3)))",
	} {
		for _, count := range []int{maxCount - 3, maxCount - 1, maxCount} {
			c := crowdOf(t, text, mixed())
			c.steps(t, g, 2)
			c.jump(t, count)
			c.steps(t, g, 6)
		}
	}
}
