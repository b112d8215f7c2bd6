package vm

import (
	"slices"
	"testing"

	"lathe/api"
	"lathe/samples"
)

// holdInput: VM2 and rule 2, a step with these answers an error and no updates, and the machine is as it was. It answers the error.
func holdInput(t *testing.T, m *Machine, grads, params [][]api.F) api.Errno {
	t.Helper()
	state, spent := m.State(), m.Spent()
	u, e := m.Step(grads, params)
	if u != nil || e == api.OK {
		t.Errorf("Step(%08x, %08x) = %08x, %d", grads, params, u, e)
	}
	if !slices.Equal(m.State(), state) || m.Spent() != spent {
		t.Errorf("%08x, %d became %08x, %d", state, spent, m.State(), m.Spent())
	}
	return e
}

// misfits are vectors that do not fit a signature: too few, too many, one too short, one too long, one empty, one of another's length.
func misfits(g *samples.Grower, list []api.Param) [][][]api.F {
	all := [][][]api.F{append(g.Vectors(list), nil), append(g.Vectors(list), []api.F{one})}
	if len(list) > 0 {
		all = append(all, nil, [][]api.F{}, g.Vectors(list)[1:], g.Vectors(list)[:len(list)-1], make([][]api.F, len(list)))
	}
	change := func(p int, do func(v []api.F) []api.F) {
		vectors := g.Vectors(list)
		vectors[p] = do(vectors[p])
		all = append(all, vectors)
	}
	for p := range list {
		change(p, func(v []api.F) []api.F { return v[1:] })
		change(p, func(v []api.F) []api.F { return append(v, one) })
		change(p, func(v []api.F) []api.F { return append(v, v...) })
		change(p, func(v []api.F) []api.F { return nil })
		if list[p].Kind == 2 {
			change(p, func(v []api.F) []api.F { return v[:len(v)/2] }) // as many numbers as elements
		}
	}
	return all
}

// TestMisfits: VM2, ErrInput of gradients, of parameters, of both, ahead of all steps, between them and behind them; the steps that follow
// are what they would have been.
func TestMisfits(t *testing.T) {
	g := &samples.Grower{Source: 6}
	for range 150 {
		x := twinOf(t, g.Code(40))
		for range 4 {
			for _, bad := range misfits(g, x.code.Sign) {
				for _, e := range []api.Errno{holdInput(t, x.m, bad, g.Vectors(x.code.Sign)), holdInput(t, x.m, g.Vectors(x.code.Sign), bad), holdInput(t, x.m, bad, bad)} {
					if e != errInput {
						t.Errorf("Step = %d", e)
					}
				}
			}
			x.hold(t)
			x.any(t, g)
		}
	}
}

// TestMisfitsOfUsual: VM2, the usual code's: lengths that would do for another parameter; what the last step spent is told still.
func TestMisfitsOfUsual(t *testing.T) {
	g := &samples.Grower{Source: 7}
	c := usual("Load D4 N1; Inc D4 A4; Store A4 N1; Store A4 N6; Grad D8; Out A8; Store A8 N2; When A4; Load D5 N6; End")
	m := begin(t, c)
	for step := range 3 {
		bad := misfits(g, c.Sign)
		bad = append(bad, [][]api.F{{one}, {one, one, one, one}, {one, one, one}}, [][]api.F{{one, one, one}, {one, one}, {one}}, [][]api.F{{one, one, one}, {one, one, one}, {one}})
		for _, vectors := range bad {
			for _, e := range []api.Errno{holdInput(t, m, vectors, usualParams()), holdInput(t, m, usualGrads(), vectors), holdInput(t, m, vectors, vectors)} {
				if e != errInput {
					t.Errorf("Step = %d", e)
				}
			}
		}
		if step == 0 {
			holdSpent(t, m, 0)
			holdState(t, m, 0, 0, 0, 0, 0, 0, 0, 0)
		} else {
			holdSpent(t, m, 1+1+1+1+3+3+3+1+1+1)
			holdState(t, m, 0, uint32(step), uint32(one), uint32(two), uint32(three), 0, 0, 0)
		}
		if u := stepped(t, m, usualGrads(), usualParams()); !same(u, [][]api.F{{one, two, three}, {0, 0, 0, 0}, {0}}) {
			t.Errorf("%08x", u)
		}
	}
}
