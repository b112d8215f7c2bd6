package driver

import (
	"slices"
	"strconv"
	"strings"
	"sync"
	"testing"

	"lathe/api"
	"lathe/code"
	"lathe/mealy"
	"lathe/parse"
	"lathe/samples"
	"lathe/tree"
)

// A crowd is a session for each choice of the passes, and the machine that says what they should do.
type crowd struct {
	text     string
	list     []api.Param
	machine  *mealy.Machine
	sessions []*Session
}

// crowdOf is that of a text whose programs must all have bytecode.
func crowdOf(t *testing.T, text string, list []api.Param) *crowd {
	t.Helper()
	c := &crowd{text: text, list: list, machine: meant(t, text, list)}
	for passes := range subsets {
		c.sessions = append(c.sessions, session(t, text, list, passes))
	}
	return c
}

// step: DR2 and P3, one step of all, with the machine's updates.
func (c *crowd) step(t *testing.T, grads, params [][]api.F) {
	t.Helper()
	want, e := c.machine.Step(grads, params)
	if e != api.OK {
		t.Fatalf("%s: the machine's Step = %d", c.text, e)
	}
	for passes, s := range c.sessions {
		if u := stepped(t, s, grads, params); !same(u, want) || s.Count() != c.machine.Count() {
			t.Fatalf("%s over %v, passes %d, step %d of %08x, %08x: %08x, want %08x", c.text, c.list, passes, s.Count(), grads, params, u, want)
		}
	}
}

// steps are some with vectors from all over.
func (c *crowd) steps(t *testing.T, g *samples.Grower, count int) {
	t.Helper()
	for range count {
		c.step(t, anyVectors(g, c.list), anyVectors(g, c.list))
	}
}

// jump: P9, all go on from where every count is that one: what is kept of whole numbers are counts, if the text has no call that keeps
// another one.
func (c *crowd) jump(t *testing.T, count int) {
	t.Helper()
	if e := c.machine.Jump(count); e != api.OK {
		t.Fatalf("Jump = %d", e)
	}
	for passes, s := range c.sessions {
		b := compiled(t, c.text, c.list, passes)
		kept, _, _ := code.Decode(b)
		_, state := numbersOf(s.Snapshot())
		at := 0
		for _, slot := range kept.Slots {
			switch {
			case !slot.Keep:
			case slot.Type.Kind == api.TypeWhole:
				state[at] = uint32(count)
				at++
			case slot.Type.Kind == api.TypeNumber:
				at++
			default:
				at += c.list[slot.Type.Param].Len
			}
		}
		if at != len(state) {
			t.Fatalf("%s: %d numbers, want %d", c.text, len(state), at)
		}
		restored(t, s, snapshot(b, uint32(count), state...))
	}
}

// calls are the names of the calls of a text.
func calls(text string) []string {
	root, _, _ := parse.Parse(text)
	return tree.Names(root)
}

// mayJump tells whether all whole numbers that a text's machine keeps are counts.
func mayJump(text string) bool {
	return !slices.ContainsFunc(calls(text), func(name string) bool {
		return slices.Contains([]string{"multi_steps", "apply_every", "apply_if_finite"}, name)
	})
}

// TestMeaning: DR1, DR2 and P3, programs from all over with every choice of the passes: the same updates as the machine's, whatever comes in,
// from the beginning on, and from about the greatest count on.
func TestMeaning(t *testing.T) {
	count := 640
	if testing.Short() {
		count = 160
	}
	var lock sync.Mutex
	seen, jumps := map[string]int{}, 0
	side(t, 8, func(t *testing.T, part int) {
		g := &samples.Grower{Source: samples.Source(100 + part)}
		for n := range count / 8 {
			list := g.Params(4)
			text := text(g, list, 1+n%5)
			c := crowdOf(t, text, list)
			c.steps(t, g, 2+g.Below(5))
			if mayJump(text) && g.Below(2) == 0 {
				c.jump(t, maxCount-2)
				c.steps(t, g, 5)
				jumps++
			}
			lock.Lock()
			for _, name := range calls(text) {
				seen[name]++
			}
			if strings.Contains(text, "let ") {
				seen["let"]++
			}
			lock.Unlock()
		}
	})
	for _, name := range append(samples.CallNames(), "let", "all", "none", "real", "complex", "not", "and", "or") {
		if seen[name] < 2 {
			t.Errorf("%s: seen %d times", name, seen[name])
		}
	}
	if jumps < count/8 {
		t.Errorf("%d jumps", jumps)
	}
}

// side does parts of a test side by side, each with a source of its own.
func side(t *testing.T, parts int, do func(t *testing.T, part int)) {
	t.Run("side", func(t *testing.T) {
		for part := range parts {
			t.Run(strconv.Itoa(part), func(t *testing.T) {
				t.Parallel()
				do(t, part)
			})
		}
	})
}
