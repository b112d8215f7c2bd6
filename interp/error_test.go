package interp

import (
	"slices"
	"strconv"
	"testing"

	"lathe/api"
	"lathe/samples"
)

// holdRefused: New answers that error and no run.
func holdRefused(t *testing.T, c api.Code, want api.Errno) {
	t.Helper()
	if r, e := New(c); r != nil || e != want {
		t.Errorf("New = %v, %d, want %d: %s", r, e, want, samples.Show(c))
	}
}

// several are parameters with names of their own.
func several(count, kind, length int) []api.Param {
	var list []api.Param
	for i := range count {
		list = append(list, api.Param{Name: "p" + strconv.Itoa(i), Kind: kind, Len: length})
	}
	return list
}

// A harm makes a code that is refused so.
type harm struct {
	do func(c *api.Code)
	e  api.Errno
}

// harms are some of each kind, in the order in which they are told.
func harms() []harm {
	return []harm{
		{func(c *api.Code) { c.Sign = append(several(65, 1, 1), c.Sign...) }, errLong},
		{func(c *api.Code) { c.Sign[0].Kind = 3 }, errParam},
		{func(c *api.Code) { c.Sign[1].Name = c.Sign[2].Name }, errTwice},
		{func(c *api.Code) { c.Sign = append(c.Sign, several(16, 1, 4096)...) }, errTotal},
		{func(c *api.Code) { c.Regs = append(c.Regs, slices.Repeat(c.Regs[:1], maxRegs)...) }, errSize},
		{func(c *api.Code) { c.List = append(c.List, slices.Repeat(read("Number D0"), maxCode)...) }, errSize},
		{func(c *api.Code) { c.Slots = append(c.Slots, slices.Repeat(c.Slots[:1], maxSlots)...) }, errSlots},
		{func(c *api.Code) { c.Regs = append(c.Regs, api.Type{Kind: 4}) }, errCode},
		{func(c *api.Code) { c.Slots = append(c.Slots, api.Slot{Type: numberType(), Bits: 0x7f800001}) }, errCode},
		{func(c *api.Code) { c.Slots = append(c.Slots, api.Slot{Type: wholeType(), Int: -1}) }, errCode},
		{func(c *api.Code) { c.List = append(c.List, read("Neg D0 A3")...) }, errCode},
	}
}

// TestRefused: IN1, New answers ir.Check's errors, each one, and of two the first.
func TestRefused(t *testing.T) {
	for at, first := range harms() {
		c := usual("Number D0")
		first.do(&c)
		holdRefused(t, c, first.e)
		for _, second := range harms()[at+1:] {
			c := usual("Number D0")
			second.do(&c)
			first.do(&c)
			holdRefused(t, c, first.e)
		}
	}
	c := usual("Number D0")
	for _, h := range slices.Backward(harms()) {
		h.do(&c)
		holdRefused(t, c, h.e)
	}
}

// TestIllFormed: IN1, instructions that are at fault, wherever they stand, also where a step would not come to them.
func TestIllFormed(t *testing.T) {
	for _, text := range []string{
		"?", "?38", "Number D4", "Number D18", "Number D0 =7fffffff", "Whole D4 N-1", "Whole D4 N2147483648", "Neg D0 A1", "Add D8 A8 B8", "Grad D8 N1", "Grad D12 N2", "Load D0 N10", "Load D0 N1",
		"End", "Next", "When A5", "When A4; End; End", "Loop", "Loop N3; Next", "Loop; Number D0; Next", "Loop; Grad D12; Next", "Loop; When A4; End; Next", "Loop; Loop; Next; Next", "When A4; Number D0; End; Neg D1 A0",
		"When A4; Loop; End; Next", "Store A0", "Out A8", "Test D4 A4", "Select D8 A0 B0 C0", "Number D0 A1",
	} {
		list := "Whole D4;"
		c := usual(list)
		c.List = append(c.List, readOdd(text)...)
		holdRefused(t, c, errCode)
		c = usual(list + "When A4")
		c.List = append(append(c.List, readOdd(text)...), read("End")...)
		holdRefused(t, c, errCode)
	}
}

// readOdd reads an Op by its number too.
func readOdd(text string) []api.Inst {
	if number, ok := cutOp(text); ok {
		return []api.Inst{{Op: number}}
	}
	return read(text)
}

func cutOp(text string) (int, bool) {
	if text[0] != '?' || len(text) == 1 {
		return 0, false
	}
	number, err := strconv.Atoi(text[1:])
	return number, err == nil
}

// TestTaken: IN1, New takes just what is well formed: codes from all over, with a field changed.
func TestTaken(t *testing.T) {
	g := &samples.Grower{Source: 6}
	taken, refused := 0, 0
	for range 4000 {
		c := g.Code(20)
		begin(t, c)
		if len(c.List) == 0 {
			continue
		}
		i := &c.List[g.Below(len(c.List))]
		*samples.Field(i, "DABCN?"[g.Below(6)]) += g.Below(5) - 2
		if r, e := New(c); e == api.OK && r != nil {
			taken++
			stepped(t, r, g.Vectors(c.Sign), g.Vectors(c.Sign))
		} else if e == errCode && r == nil {
			refused++
		} else {
			t.Errorf("New = %v, %d: %s", r, e, samples.Show(c))
		}
	}
	if taken < 500 || refused < 1000 {
		t.Errorf("%d were taken, %d refused", taken, refused)
	}
}

// holdInput: a step with these answers ErrInput and no updates.
func holdInput(t *testing.T, r *Run, grads, params [][]api.F) {
	t.Helper()
	if u, e := r.Step(grads, params); u != nil || e != errInput {
		t.Errorf("Step(%08x, %08x) = %08x, %d", grads, params, u, e)
	}
}

// misfits are vectors that do not fit a signature: too few, too many, one too short, one too long, one empty.
func misfits(g *samples.Grower, list []api.Param) [][][]api.F {
	all := [][][]api.F{append(g.Vectors(list), nil), append(g.Vectors(list), []api.F{one})}
	if len(list) > 0 {
		all = append(all, nil, [][]api.F{}, g.Vectors(list)[1:], g.Vectors(list)[:len(list)-1], make([][]api.F, len(list)))
	}
	change := func(p int, do func(v []api.F) []api.F) {
		vectors := g.Vectors(list)
		vectors[p] = do(vectors[p])
		all = append(all, vectors)
	}
	for p := range list {
		change(p, func(v []api.F) []api.F { return v[1:] })
		change(p, func(v []api.F) []api.F { return append(v, one) })
		change(p, func(v []api.F) []api.F { return append(v, v...) })
		change(p, func(v []api.F) []api.F { return nil })
		if list[p].Kind == 2 {
			change(p, func(v []api.F) []api.F { return v[:len(v)/2] }) // as many numbers as elements
		}
	}
	return all
}

// TestMisfits: IN2, ErrInput of gradients, of parameters, of both, ahead of all steps and between them; and then nothing has changed, also
// not what slots without Keep hold.
func TestMisfits(t *testing.T) {
	g := &samples.Grower{Source: 7}
	for range 100 {
		c := g.Code(40)
		r, w := begin(t, c), wordsOf(c)
		for range 3 {
			for _, bad := range misfits(g, c.Sign) {
				holdInput(t, r, bad, g.Vectors(c.Sign))
				holdInput(t, r, g.Vectors(c.Sign), bad)
				holdInput(t, r, bad, bad)
				holdSlots(t, r, w.slots)
			}
			holdStep(t, r, w, g.Vectors(c.Sign), g.Vectors(c.Sign))
		}
	}
}

// TestMisfitsOfUsual: IN2, the usual code's: lengths that would do for another parameter.
func TestMisfitsOfUsual(t *testing.T) {
	g := &samples.Grower{Source: 8}
	c := usual("Load D4 N1; Inc D4 A4; Store A4 N1; Store A4 N6; Grad D8; Out A8")
	r := begin(t, c)
	for step := range 3 {
		bad := misfits(g, c.Sign)
		bad = append(bad, [][]api.F{{one}, {one, one, one, one}, {one, one, one}}, [][]api.F{{one, one, one}, {one, one}, {one}}, [][]api.F{{one, one, one}, {one, one, one}, {one}})
		for _, vectors := range bad {
			holdInput(t, r, vectors, usualParams())
			holdInput(t, r, usualGrads(), vectors)
			holdInput(t, r, vectors, vectors)
		}
		holdSlot(t, r, 1, nil, step)
		if u := stepped(t, r, usualGrads(), usualParams()); u[0][2] != three {
			t.Errorf("%08x", u)
		}
		for _, vectors := range bad {
			holdInput(t, r, vectors, usualParams())
		}
		holdSlot(t, r, 1, nil, step+1)
		holdSlot(t, r, 6, nil, step+1) // without Keep: as the last step that was done left it
	}
}

// holdNoSlot: there is no slot of that number.
func holdNoSlot(t *testing.T, r *Run, n int) {
	t.Helper()
	if a, whole, e := r.Slot(n); a != nil || whole != 0 || e != errArg {
		t.Errorf("Slot(%d) = %08x, %d, %d", n, a, whole, e)
	}
}

// TestNoSlot: IN3, ErrArg of numbers that no slot has.
func TestNoSlot(t *testing.T) {
	r, _ := done(t, "Whole D4 N3; Store A4 N6; Grad D16; Store A16 N9")
	for _, n := range []int{-1, -2, -10, 10, 11, 1 << 31, 1 << 32, 1<<32 + 1, minInt, minInt + 9, maxInt} {
		holdNoSlot(t, r, n)
		holdNoSlot(t, r.Clone(), n)
	}
	holdSlot(t, r, 9, []api.F{six}, 0)
	none := begin(t, api.Code{})
	for _, n := range []int{-1, 0, 1, maxInt, minInt} {
		holdNoSlot(t, none, n)
	}
}
