// Package alike tells the passes' tests whether two codes mean the same: the interpreter runs them side by side. It also watches what a step
// of one code does. Nothing but tests calls it.
package alike

import (
	"slices"
	"strconv"

	"lathe/api"
	"lathe/interp"
	"lathe/samples"
)

// A Both is a slot of the first code, and the one of the other code that is to hold the same.
type Both struct{ First, Other int }

// Every and Kept are which slots of a code are asked what they hold: all, or those with Keep. In the other code they have the same numbers.
func Every(c api.Code) []Both {
	var list []Both
	for n := range c.Slots {
		list = append(list, Both{n, n})
	}
	return list
}

// Kept: see Every.
func Kept(c api.Code) []Both {
	return slices.DeleteFunc(Every(c), func(b Both) bool { return !c.Slots[b.First].Keep })
}

// A Pair is two codes at work.
type Pair struct {
	codes [2]api.Code
	runs  [2]*interp.Run
	asked []Both
	steps int
}

// New begins with both; or it tells what is wrong.
func New(c, d api.Code, asked []Both) (*Pair, string) {
	p := &Pair{codes: [2]api.Code{c, d}, asked: asked}
	for n := range p.codes {
		run, e := interp.New(p.codes[n])
		if e != api.OK {
			return nil, "interp.New = " + strconv.Itoa(int(e)) + ": " + samples.Show(p.codes[n])
		}
		p.runs[n] = run
	}
	return p, ""
}

// Step is a step of both: what is unlike then; empty, if there is nothing.
func (p *Pair) Step(grads, params [][]api.F) string {
	p.steps++
	var updates [2][][]api.F
	for n, run := range p.runs {
		u, e := run.Step(grads, params)
		if e != api.OK {
			return "Step = " + strconv.Itoa(int(e)) + p.which()
		}
		updates[n] = u
	}
	if !slices.EqualFunc(updates[0], updates[1], slices.Equal[[]api.F]) {
		return "updates" + p.which()
	}
	for _, b := range p.asked {
		if !p.holdSame(b) {
			return "slot " + strconv.Itoa(b.First) + p.which()
		}
	}
	return ""
}

// holdSame tells whether a slot holds in one what it holds in the other.
func (p *Pair) holdSame(b Both) bool {
	x, i, e := p.runs[0].Slot(b.First)
	y, j, f := p.runs[1].Slot(b.Other)
	return slices.Equal(x, y) && i == j && e == api.OK && f == api.OK
}

func (p *Pair) which() string {
	return ", step " + strconv.Itoa(p.steps) + ": " + samples.Show(p.codes[0]) + " became " + samples.Show(p.codes[1])
}

// Difference is what is unlike in so many steps of two codes, with gradients and parameters from all over; empty, if there is nothing.
func Difference(g *samples.Grower, c, d api.Code, steps int, asked []Both) string {
	p, wrong := New(c, d, asked)
	for range steps {
		if wrong != "" {
			break
		}
		mood := g.Below(samples.Moods + 1)
		grads, params := g.Vectors(c.Sign), g.Vectors(c.Sign)
		if mood < samples.Moods {
			grads, params = g.Moody(c.Sign, mood), g.Moody(c.Sign, mood)
		}
		wrong = p.Step(grads, params)
	}
	return wrong
}

// Throughout is what is unlike in so many steps; and in a step whatever the kept slots hold at its beginning, if there is room for the
// instructions that set them; empty, if there is nothing.
func Throughout(g *samples.Grower, c, d api.Code, steps int, asked []Both) string {
	unlike := Difference(g, c, d, steps, asked)
	if !hasRoom(c) || !hasRoom(d) {
		return unlike
	}
	for range 2 {
		if unlike == "" {
			a, b := Primed(g, c, d, asked)
			unlike = Difference(g, a, b, 1, asked)
		}
	}
	return unlike
}

// hasRoom tells whether code that is primed is within the limits.
func hasRoom(c api.Code) bool {
	return len(c.Regs)+len(c.Slots) <= api.MaxRegs && len(c.List)+2*len(c.Slots) <= api.MaxCode
}

// Primed is both codes with instructions ahead of them that make each kept slot of the first one hold something else, and the slots of the
// other one that go with those the same: a vector's is a parameter that comes in.
func Primed(g *samples.Grower, c, d api.Code, asked []Both) (api.Code, api.Code) {
	values := make([]api.Inst, len(c.Slots))
	var first, other []int
	for n, s := range c.Slots {
		if s.Keep {
			values[n] = value(g, c.Sign, s.Type)
			first = append(first, n)
		}
	}
	var same []api.Inst
	for _, b := range asked {
		if c.Slots[b.First].Keep {
			same = append(same, values[b.First])
			other = append(other, b.Other)
		}
	}
	return primed(c, first, slices.DeleteFunc(values, func(i api.Inst) bool { return i.Op == 0 })), primed(d, other, same)
}

// value is an instruction that sets a register of that type.
func value(g *samples.Grower, sign []api.Param, t api.Type) api.Inst {
	switch t.Kind {
	case api.TypeNumber:
		return api.Inst{Op: api.OpNumber, Bits: g.Told()}
	case api.TypeWhole:
		return api.Inst{Op: api.OpWhole, N: g.Whole()}
	}
	return api.Inst{Op: api.OpParam, N: g.Below(sign[t.Param].Kind)}
}

// primed is the code with such values in slots ahead of it.
func primed(c api.Code, slots []int, values []api.Inst) api.Code {
	c = samples.CloneCode(c)
	var ahead []api.Inst
	for k, n := range slots {
		set := values[k]
		set.D = len(c.Regs)
		c.Regs = append(c.Regs, c.Slots[n].Type)
		ahead = append(ahead, set, api.Inst{Op: api.OpStore, A: set.D, N: n})
	}
	c.List = append(ahead, c.List...)
	return c
}
