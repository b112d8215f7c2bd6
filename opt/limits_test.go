package opt

import (
	"slices"
	"strings"
	"testing"

	"lathe/api"
	"lathe/samples"
)

// most is how many instructions OP4 speaks of, beside OpLoops and OpNexts.
const most = 10922

// filled is the usual code with so many instructions, of a text again and again behind another one.
func filled(ahead, text string, count int) api.Code {
	c := usual(ahead)
	piece := read(text)
	for len(c.List) < count {
		c.List = append(c.List, piece...)
	}
	c.List = c.List[:count]
	return c
}

// sources set the registers that the texts read.
const sources = "Load D4 N1; Number D0 =3f800000; Number D1; Grad D8; Param D9; Grad D12; Grad D16; Load D17 N4; Out A9; Out A12 N1;"

// texts are instructions that a long code may have again and again: in few loops or many, needed or not, the same or not.
func texts() []string {
	return []string{
		"Neg D8 A8; Out A8", "Mul D8 A9 B0; Number D0 =3f800000; Out A8; Number D0 =3f7fffff", "Sum D0 A8; Mul D8 A9 B0; Out A8", "Add D12 A12 B0; Add D16 A17 B0; Out A12; Number D0 =40000000; Out A16", "Number D1; Abs D16 A16; Sum D1 A8; Least D1 A16",
		"Out A8; Neg D8 A8; Store A8 N2; Load D9 N2; Store A9 N7; Sum D0 A9",
	}
}

// apart is code with a loop of its own around each instruction that may be looped.
func apart(c api.Code) api.Code {
	d := c
	d.List = nil
	for _, i := range c.List {
		if param := samples.LoopOf(c, i); param >= 0 {
			d.List = append(d.List, api.Inst{Op: 36, N: param}, i, api.Inst{Op: 37})
		} else {
			d.List = append(d.List, i)
		}
	}
	return d
}

// TestLongest: OP4 and OP1, as many instructions as OP4 speaks of, without loops and with as many as can be.
func TestLongest(t *testing.T) {
	for _, text := range texts() {
		c := filled(sources, text, most)
		d := apart(c)
		if !isBounded(c) || !isBounded(d) || isBounded(filled(sources, text, most+1)) {
			t.Fatalf("%s: %d, %d", text, len(c.List), len(d.List))
		}
		holdErrors(t, c, never)
		holdErrors(t, d, never)
	}
}

// TestLonger: OP1 and OP3, more instructions than OP4 speaks of, up to MaxCode.
func TestLonger(t *testing.T) {
	for n, text := range texts() {
		holdErrors(t, filled(sources, text, []int{most + 1, maxCode}[n%2]), never)
	}
}

// nested is code with so many blocks in one another, and a text in each place.
func nested(depth int, text string) api.Code {
	c := usual(sources)
	c.Slots[1].Int = 1
	c.List = append(c.List, read(strings.Repeat("When A4;"+text+";", depth)+strings.Repeat("End;"+text+";", depth))...)
	return c
}

// TestDeepest: OP4 and OP1, as many blocks of OpWhen as OP4 speaks of, in one another and one behind the other, and a few less.
func TestDeepest(t *testing.T) {
	for _, text := range append(texts(), "", "Loop; Next; Loop; Load D8 N2; Next; Loop N2; Next; Out A8") {
		for _, depth := range []int{1, 2, maxNest - 2, maxNest - 1} {
			c := nested(depth, text)
			flat := usual(sources + strings.Repeat("When A4;"+text+"; End;"+text+";", depth))
			if !isBounded(c) || !isBounded(flat) {
				t.Fatalf("%s: %d", text, depth)
			}
			hold(t, &samples.Grower{Source: 3}, c, 2)
			hold(t, &samples.Grower{Source: 3}, flat, 2)
		}
	}
}

// TestDeeper: OP1 and OP3, MaxNest blocks of OpWhen in one another, where fuse has no room for loops, and alloc has values that wait: what no
// block is for, goes still.
func TestDeeper(t *testing.T) {
	for _, text := range append(texts(), "") {
		c := nested(maxNest, text)
		if isBounded(c) {
			t.Errorf("it is bounded")
		}
		hold(t, &samples.Grower{Source: 3}, c, 2)
	}
	c := samples.NewCrowd()
	c.Slots[1].Int = 1
	when := c.Load(1)
	list := c.Come(2, 12)
	for range maxNest {
		c.List = append(c.List, api.Inst{Op: 34, A: when})
		c.Leave(2, append(c.Come(2, 10), list[3]))
	}
	c.Put(strings.Repeat("End;", maxNest))
	c.Leave(2, list)
	w := hold(t, &samples.Grower{Source: 4}, c.Code, 3)
	if d := w.codes[1+passAlloc]; len(d.Slots) < len(c.Slots)+4 || samples.Counts(d)[34] != maxNest {
		t.Errorf("%s", samples.Show(d))
	}
	c.List[0] = read("Whole N1")[0]
	w = hold(t, &samples.Grower{Source: 4}, c.Code, 3)
	if d := w.codes[1+passFold]; samples.Counts(d)[34] != 0 {
		t.Errorf("%s", samples.Show(d))
	}
}

// TestDeepAndLong: OP1 and OP3, MaxNest blocks in one another, one behind the other up to MaxCode instructions.
func TestDeepAndLong(t *testing.T) {
	c := nested(maxNest, "Neg D8 A8; Sum D0 A8; Mul D9 A9 B0; Out A9")
	piece := slices.Clone(c.List[len(read(sources)):])
	for len(c.List)+len(piece) <= maxCode {
		c.List = append(c.List, piece...)
	}
	for len(c.List) < maxCode {
		c.List = append(c.List, read("Out A8")...)
	}
	holdErrors(t, c, never)
}

// TestManySlots: OP1 and OP3, as many slots as may be, each of which holds in the next step what the one behind it of its type held.
func TestManySlots(t *testing.T) {
	c := samples.NewCrowd()
	for n := len(c.Slots); n < maxSlots; n++ {
		c.Slots = append(c.Slots, api.Slot{Type: samples.TypeOf(n % samples.Sorts), Keep: n%3 > 0})
	}
	grad := c.Set(2, "Grad")
	number := c.Set(0, "Least", grad)
	for n, s := range c.Slots {
		sort := samples.SortOf(s.Type)
		i := api.Inst{Op: 32, D: len(c.Regs), N: n}
		c.Regs = append(c.Regs, s.Type)
		c.List = append(c.List, i)
		if sort > 1 {
			c.List = append(c.List, api.Inst{Op: 31, A: c.Set(sort, "Add", i.D, number)})
		}
		c.List = append(c.List, api.Inst{Op: 33, A: i.D, N: max(n-samples.Sorts, sort)})
	}
	holdErrors(t, c.Code, never)
}

// TestMost: OP1 to OP4, as many parameters as may be, each with as many vectors alive as there may be registers, and with one more.
func TestMost(t *testing.T) {
	for more := range 2 {
		c := &samples.Crowd{}
		var vectors [64][]int
		for p := range vectors {
			c.Sign = append(c.Sign, api.Param{Name: string([]byte{'a' + byte(p/8), 'a' + byte(p%8)}), Kind: 1, Len: 1 + p%3})
			vectors[p] = []int{c.Set(2+p, "Grad")}
			for n := range 7 + more {
				vectors[p] = append(vectors[p], c.More(2+p, vectors[p][n]))
			}
		}
		for p, list := range vectors {
			into := list[0]
			for _, register := range list[1:] {
				into = c.Set(2+p, "Sub", register, into)
			}
			c.List = append(c.List, api.Inst{Op: 31, A: into})
		}
		w := hold(t, &samples.Grower{Source: 5}, c.Code, 2)
		if d := w.codes[1+passAlloc]; len(d.Regs) != 8*64 || (len(d.List) > len(c.List)) != (more > 0) {
			t.Errorf("%s", samples.Show(d))
		}
	}
}
