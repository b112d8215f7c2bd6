// Package alike tells the passes' tests whether two codes mean the same: the interpreter runs them side by side. Nothing but tests calls it.
package alike

import (
	"slices"
	"strconv"

	"lathe/api"
	"lathe/interp"
	"lathe/samples"
)

// Every and Kept are which slots are asked what they hold: all, or those with Keep.
func Every(api.Slot) bool { return true }

// Kept: see Every.
func Kept(s api.Slot) bool { return s.Keep }

// A Pair is two codes at work. The first one's slots stand at the beginning of the other one's too, if any are asked.
type Pair struct {
	codes [2]api.Code
	runs  [2]*interp.Run
	asked func(s api.Slot) bool
	steps int
}

// New begins with both; or it tells what is wrong.
func New(c, d api.Code, asked func(s api.Slot) bool) (*Pair, string) {
	p := &Pair{codes: [2]api.Code{c, d}, asked: asked}
	for n := range p.codes {
		run, e := interp.New(p.codes[n])
		if e != api.OK {
			return nil, "interp.New = " + strconv.Itoa(int(e)) + ": " + samples.Show(p.codes[n])
		}
		p.runs[n] = run
	}
	return p, ""
}

// Step is a step of both: what is unlike then; empty, if there is nothing.
func (p *Pair) Step(grads, params [][]api.F) string {
	p.steps++
	var updates [2][][]api.F
	for n, run := range p.runs {
		u, e := run.Step(grads, params)
		if e != api.OK {
			return "Step = " + strconv.Itoa(int(e)) + p.which()
		}
		updates[n] = u
	}
	if !slices.EqualFunc(updates[0], updates[1], slices.Equal[[]api.F]) {
		return "updates" + p.which()
	}
	for n, s := range p.codes[0].Slots {
		if p.asked(s) && !p.holdSame(n) {
			return "slot " + strconv.Itoa(n) + p.which()
		}
	}
	return ""
}

// holdSame tells whether a slot holds the same in both.
func (p *Pair) holdSame(n int) bool {
	x, i, e := p.runs[0].Slot(n)
	y, j, f := p.runs[1].Slot(n)
	return slices.Equal(x, y) && i == j && e == api.OK && f == api.OK
}

func (p *Pair) which() string {
	return ", step " + strconv.Itoa(p.steps) + ": " + samples.Show(p.codes[0]) + " became " + samples.Show(p.codes[1])
}

// Difference is what is unlike in so many steps of two codes, with gradients and parameters from all over; empty, if there is nothing.
func Difference(g *samples.Grower, c, d api.Code, steps int, asked func(s api.Slot) bool) string {
	p, wrong := New(c, d, asked)
	for range steps {
		if wrong != "" {
			break
		}
		mood := g.Below(samples.Moods + 1)
		grads, params := g.Vectors(c.Sign), g.Vectors(c.Sign)
		if mood < samples.Moods {
			grads, params = g.Moody(c.Sign, mood), g.Moody(c.Sign, mood)
		}
		wrong = p.Step(grads, params)
	}
	return wrong
}

// Primed is the code with instructions ahead of it that make each kept slot hold something else: a vector's is a parameter that comes
// in. Two codes with the same slots are primed alike, as the grower is a copy.
func Primed(g samples.Grower, c api.Code) api.Code {
	c = samples.CloneCode(c)
	var ahead []api.Inst
	for n, s := range c.Slots {
		if !s.Keep {
			continue
		}
		set := api.Inst{Op: api.OpNumber, D: len(c.Regs)}
		switch s.Type.Kind {
		case api.TypeNumber:
			set.Bits = g.Told()
		case api.TypeWhole:
			set.Op, set.N = api.OpWhole, g.Whole()
		default:
			set.Op, set.N = api.OpParam, g.Below(c.Sign[s.Type.Param].Kind)
		}
		c.Regs = append(c.Regs, s.Type)
		ahead = append(ahead, set, api.Inst{Op: api.OpStore, A: set.D, N: n})
	}
	c.List = append(ahead, c.List...)
	return c
}
