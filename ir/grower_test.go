package ir

import (
	"slices"
	"strconv"
	"strings"
	"testing"

	"lathe/api"
	"lathe/samples"
)

// A grower makes codes from all over.
type grower struct{ samples.Source }

// below is a whole number from 0 to limit - 1; 0, if there is none.
func (g *grower) below(limit int) int { return int(g.Next()>>3) % max(limit, 1) }

func (g *grower) signature() []api.Param {
	var list []api.Param
	for i := range g.below(4) {
		list = append(list, api.Param{Name: "p" + strconv.Itoa(i), Kind: 1 + g.below(2), Len: 1 + g.below(3)})
	}
	return list
}

func (g *grower) typed(params int) api.Type {
	kind := 1 + g.below(5)
	if params == 0 || kind <= typeWhole {
		return api.Type{Kind: 1 + kind%2}
	}
	return vectorType(g.below(params))
}

// pattern is one that may be told.
func (g *grower) pattern() api.F {
	if g.below(4) == 0 {
		return nan
	}
	return g.Number()
}

func (g *grower) slot(params int) api.Slot {
	s := api.Slot{Type: g.typed(params), Keep: g.below(2) == 0}
	if s.Type.Kind == typeWhole {
		s.Int = g.whole()
	} else {
		s.Bits = g.pattern()
	}
	return s
}

// whole is from 0 to MaxCount.
func (g *grower) whole() int {
	switch g.below(4) {
	case 0:
		return maxCount
	case 1:
		return int(g.Next() >> 1)
	}
	return g.below(5)
}

// register is one that the letter means, if there is one: a few are tried.
func (g *grower) register(c api.Code, letter byte, d int) int {
	for range 12 {
		r := g.below(len(c.Regs))
		if wantWord(letter, registerWord(c, r), registerWord(c, d)) {
			return r
		}
	}
	return g.below(len(c.Regs))
}

// instruction is any; most of them fit their row.
func (g *grower) instruction(c api.Code) api.Inst {
	i := api.Inst{Op: 1 + g.below(37)}
	if g.below(6) == 0 {
		i.Op = api.OpWhen + g.below(4)
	}
	row := rowsByOp[i.Op]
	for k, place := range []*int{&i.D, &i.A, &i.B, &i.C} {
		if row[k] != '-' {
			*place = g.register(c, row[k], i.D)
		}
	}
	switch row[4] {
	case 'b':
		i.Bits = g.pattern()
	case 'c':
		i.N = g.whole()
	case 'p':
		i.N = g.below(2)
	case 's':
		i.N = g.below(len(c.Slots))
	case 'm':
		i.N = g.below(len(c.Sign))
	}
	return i
}

// code is well formed, with at most so many instructions and a few that end blocks.
func (g *grower) code(most int) api.Code {
	c := api.Code{Sign: g.signature()}
	for range 1 + g.below(10) {
		c.Regs = append(c.Regs, g.typed(len(c.Sign)))
	}
	for range g.below(6) {
		c.Slots = append(c.Slots, g.slot(len(c.Sign)))
	}
	count := g.below(most + 1)
	for tries := 0; len(c.List) < count && tries < 10*most; tries++ {
		c.List = append(c.List, g.instruction(c))
		if last := len(c.List) - 1; wantFault(c, last) {
			c.List = c.List[:last]
		}
	}
	return closed(c)
}

// closed is the code with its open blocks ended.
func closed(c api.Code) api.Code {
	open := openAt(c.List)
	for _, at := range slices.Backward(open) {
		c.List = append(c.List, api.Inst{Op: c.List[at].Op + 1})
	}
	return c
}

// copyOf is the code in memory of its own.
func copyOf(c api.Code) api.Code {
	return api.Code{Sign: slices.Clone(c.Sign), Regs: slices.Clone(c.Regs), Slots: slices.Clone(c.Slots), List: slices.Clone(c.List)}
}

// odd is a whole number that is mostly out of place.
func (g *grower) odd() int {
	list := []int{-1, 0, 1, 2, 3, 5, 11, 12, 37, 38, 64, maxCount, maxCount + 1, 1 << 32, minInt, maxInt}
	return list[g.below(len(list))]
}

// harm changes one thing of the code: most often so that it is not well formed.
func (g *grower) harm(c *api.Code) {
	at := g.below(len(c.List))
	switch what := g.below(12); {
	case what == 0 && len(c.Regs) > 0:
		c.Regs[g.below(len(c.Regs))] = api.Type{Kind: g.below(5), Param: g.below(5) - 1}
	case what == 1 && len(c.Slots) > 0:
		g.harmSlot(&c.Slots[g.below(len(c.Slots))])
	case what == 2 && len(c.Sign) > 0:
		p := &c.Sign[g.below(len(c.Sign))]
		*p = api.Param{Name: p.Name, Kind: 1 + g.below(2), Len: g.odd()}
	case len(c.List) == 0:
		c.List = read("End")
	case what == 3:
		c.List = slices.Delete(c.List, at, at+1)
	case what == 4:
		c.List = slices.Insert(c.List, at, g.instruction(*c))
	case what == 5:
		other := g.below(len(c.List))
		c.List[at], c.List[other] = c.List[other], c.List[at]
	case what == 6:
		c.List = slices.Insert(c.List, at, c.List[g.below(len(c.List))])
	case what == 7:
		c.List[at].Bits = samples.Edges()[g.below(len(samples.Edges()))]
	case what == 8:
		c.List[at] = g.instruction(*c)
	case what == 9:
		c.List = c.List[:at]
	default:
		place := field(&c.List[at], "DABCN?"[g.below(6)])
		*place += g.below(5) - 2
		if g.below(3) == 0 {
			*place = g.odd()
		}
	}
}

func (g *grower) harmSlot(s *api.Slot) {
	switch g.below(4) {
	case 0:
		s.Type = api.Type{Kind: g.below(5), Param: g.below(5) - 1}
	case 1:
		s.Bits = samples.Edges()[g.below(len(samples.Edges()))]
	case 2:
		s.Int = g.odd()
	default:
		s.Keep = !s.Keep
	}
}

// holdWords: Check, and all that is asked of a code and its instructions, answer what the chapter's words say.
func holdWords(t *testing.T, c api.Code) {
	t.Helper()
	e, at := wantCheck(c)
	holdCheck(t, c, e, at)
	slots, numbers := wantKept(c)
	holdKept(t, c, slots, numbers)
	for _, i := range c.List {
		holdInst(t, i)
	}
}

// TestWords: IR1 and IR2, codes from all over, as they are and with a fault or two.
func TestWords(t *testing.T) {
	g := &grower{samples.Source(16)}
	taken, faults, long, seen := 0, 0, 0, map[int]int{}
	for range 12000 {
		c := g.code(40)
		holdCheck(t, c, api.OK, 0)
		holdWords(t, c)
		for _, i := range c.List {
			seen[i.Op]++
		}
		if len(c.List) > 20 {
			long++
		}
		harmed := copyOf(c)
		for range 1 + g.below(2) {
			g.harm(&harmed)
		}
		holdWords(t, harmed)
		if Equal(c, harmed) != (show(c) == show(harmed)) {
			t.Errorf("Equal is %t of %s and %s", Equal(c, harmed), show(c), show(harmed))
		}
		if e, at := wantCheck(harmed); e == api.OK {
			taken++
		} else if at > 0 {
			faults++
		}
		if t.Failed() {
			return
		}
	}
	for _, op := range ops() {
		if seen[op] < 300 {
			t.Errorf("%s stands %d times in the codes", names()[op-1], seen[op])
		}
	}
	if taken < 1500 || faults < 2500 || long < 1500 {
		t.Errorf("of the codes that were changed %d are well formed; %d have a fault behind the first instruction; %d are long", taken, faults, long)
	}
}

// TestAnyInstructions: IR1, a few instructions of any kind, most of them at fault early.
func TestAnyInstructions(t *testing.T) {
	g := &grower{samples.Source(61)}
	places := map[int]int{}
	for range 40000 {
		c := usual()
		if g.below(2) == 0 {
			c, _ = behind("")
		}
		for range g.below(12) {
			c.List = append(c.List, g.instruction(c))
		}
		holdWords(t, c)
		_, at := wantCheck(c)
		places[at]++
	}
	for _, at := range []int{0, 1, 2, 9, 10, 11, 12, 13, 14} {
		if places[at] < 100 {
			t.Errorf("the first fault is %d times at %d", places[at], at)
		}
	}
}

// TestTable: the words that the tests are led by have a row of five letters for each Op, and no other.
func TestTable(t *testing.T) {
	if len(rowsByOp) != 37 || len(names()) != 37 {
		t.Fatalf("%d rows, %d names", len(rowsByOp), len(names()))
	}
	for _, op := range ops() {
		if len(rowsByOp[op]) != 5 || strings.Trim(rowsByOp[op], "-nwvdxtsbcpm") != "" {
			t.Errorf("the row of %s is %q", names()[op-1], rowsByOp[op])
		}
	}
	for at, op := range map[int]int{0: api.OpNumber, 2: api.OpCopy, 14: api.OpSelect, 15: api.OpPower, 21: api.OpLess2, 27: api.OpOver, 28: api.OpGrad, 33: api.OpWhen, 36: api.OpNext} {
		if op != at+1 {
			t.Errorf("%s is not %d", names()[at], op)
		}
	}
}
