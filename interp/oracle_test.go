package interp

import (
	"math"
	"slices"

	"lathe/api"
)

// The chapter's words once more: whatever works on vectors is done element by element, loops as loops, blocks as pieces of the list, with
// Go's own numbers and nothing of the layers below.

func number(a api.F) float32 { return math.Float32frombits(uint32(a)) }

// told is a number's pattern, with the one NaN.
func told(x float32) api.F {
	if x != x {
		return 0x7fc00000
	}
	return api.F(math.Float32bits(x))
}

func wantBool(holds bool) api.F {
	if holds {
		return 0x3f800000
	}
	return 0
}

func wantInt(holds bool) int {
	if holds {
		return 1
	}
	return 0
}

// lesser is the least of two, -0 below +0.
func lesser(x, y float32) float32 {
	switch {
	case x != x || y != y:
		return float32(math.NaN())
	case x < y || x == y && math.Signbit(float64(x)):
		return x
	}
	return y
}

// wantElement is what an elementwise instruction makes of patterns.
func wantElement(op int, a, b, c api.F) api.F {
	x, y := number(a), number(b)
	switch op {
	case 3:
		return told(x)
	case 4:
		return told(x + y)
	case 5:
		return told(x - y)
	case 6:
		return told(x * y)
	case 7:
		return told(x / y)
	case 8:
		return told(lesser(x, y))
	case 9:
		return told(-lesser(-x, -y))
	case 10:
		return wantBool(x < y)
	case 11:
		return told(float32(math.Sqrt(float64(x))))
	case 12:
		return told(-x)
	case 13:
		return told(float32(math.Abs(float64(x))))
	case 14:
		return wantBool(x-x == 0)
	}
	if x == x && x != 0 {
		return told(y)
	}
	return told(number(c))
}

// wantPower: One of 0; else x, squared for each bit of n behind the first one, and times x where that bit is 1.
func wantPower(x api.F, n int) api.F {
	if n == 0 {
		return 0x3f800000
	}
	if n == 1 {
		return told(number(x))
	}
	r := number(wantPower(x, n/2))
	r = float32(r * r)
	if n%2 == 1 {
		r = float32(r * number(x))
	}
	return told(r)
}

// wantWhole is what an instruction makes of whole numbers.
func wantWhole(op, a, b, c int) int {
	switch op {
	case 21:
		return min(a+1, 2147483647)
	case 22:
		return wantInt(a < b)
	case 23:
		return wantInt(a == b)
	case 24:
		return wantInt(a*b != 0)
	case 25:
		return wantInt(a == 0)
	case 26:
		if a == 0 {
			return c
		}
		return b
	case 27:
		if a < b {
			return 0
		}
		return a - b
	}
	if b == 0 {
		return 0
	}
	return int(math.Floor(float64(a) / float64(b)))
}

// A box holds what a register or a slot does.
type box struct {
	patterns []api.F
	whole    int
	isSet    bool
}

// words runs code.
type words struct {
	code                  api.Code
	slots, regs           []box
	grads, params, answer [][]api.F
	did                   int // instructions, of a loop each once for each element
}

func wordsOf(c api.Code) *words {
	w := &words{code: c}
	for _, s := range c.Slots {
		w.slots = append(w.slots, w.begins(s))
	}
	return w
}

func (w *words) begins(s api.Slot) box {
	if s.Type.Kind == 2 {
		return box{whole: s.Int, isSet: true}
	}
	return box{patterns: slices.Repeat([]api.F{s.Bits}, w.elements(s.Type)), isSet: true}
}

// elements is how many one of that type has, a number one.
func (w *words) elements(t api.Type) int {
	if t.Kind == 3 {
		return w.code.Sign[t.Param].Len
	}
	return 1
}

func (w *words) clone() *words {
	other := &words{code: w.code}
	for _, s := range w.slots {
		other.slots = append(other.slots, box{slices.Clone(s.patterns), s.whole, s.isSet})
	}
	return other
}

func (w *words) step(grads, params [][]api.F) [][]api.F {
	w.grads, w.params, w.answer, w.did = grads, params, nil, 0
	for _, p := range w.code.Sign {
		w.answer = append(w.answer, make([]api.F, p.Kind*p.Len))
	}
	for n, s := range w.code.Slots {
		if !s.Keep {
			w.slots[n] = w.begins(s)
		}
	}
	w.regs = make([]box, len(w.code.Regs))
	w.run(w.code.List)
	return w.answer
}

// endOf is the place of the mark that ends the block that begins the list.
func endOf(list []api.Inst) int {
	depth := 0
	for at, i := range list {
		switch i.Op {
		case 34, 36:
			depth++
		case 35, 37:
			depth--
		}
		if depth == 0 {
			return at
		}
	}
	panic("a block has no end")
}

func (w *words) run(list []api.Inst) {
	for at := 0; at < len(list); at++ {
		switch i := list[at]; i.Op {
		case 34:
			end := at + endOf(list[at:])
			if w.reg(i.A).whole != 0 {
				w.run(list[at+1 : end])
			}
			at = end
		case 36:
			end := at + endOf(list[at:])
			for element := range w.code.Sign[i.N].Len {
				for _, inner := range list[at+1 : end] {
					w.one(inner, element)
				}
			}
			at = end
		default:
			for element := range w.turns(i) {
				w.one(i, element)
			}
		}
	}
}

// turns is for how many elements an instruction is done outside of a loop.
func (w *words) turns(i api.Inst) int {
	switch {
	case i.Op >= 3 && i.Op <= 15 || i.Op >= 29 && i.Op <= 30 || i.Op == 32:
		return w.elements(w.code.Regs[i.D])
	case i.Op == 31 || i.Op == 33:
		return w.elements(w.code.Regs[i.A])
	}
	return 1
}

// reg is a register that is read: it has to be set.
func (w *words) reg(n int) box {
	if !w.regs[n].isSet {
		panic("a register is read that is not set")
	}
	return w.regs[n]
}

// at is the element of a register that is read; of a number it.
func (w *words) at(n, element int) api.F {
	if w.code.Regs[n].Kind == 1 {
		element = 0
	}
	return w.reg(n).patterns[element]
}

// put sets an element of a register.
func (w *words) put(n, element int, a api.F) {
	r := &w.regs[n]
	r.isSet = true
	if r.patterns == nil {
		r.patterns = make([]api.F, w.elements(w.code.Regs[n]))
	}
	r.patterns[element] = a
}

func (w *words) putWhole(n, whole int) { w.regs[n] = box{whole: whole, isSet: true} }

// one does an instruction at one element.
func (w *words) one(i api.Inst, element int) {
	w.did++
	switch {
	case i.Op == 1:
		w.put(i.D, 0, i.Bits)
	case i.Op == 2:
		w.putWhole(i.D, i.N)
	case i.Op <= 15:
		w.elementwise(i, element)
	case i.Op == 16:
		w.put(i.D, 0, wantPower(w.at(i.A, 0), w.reg(i.B).whole))
	case i.Op == 17:
		w.put(i.D, 0, told(float32(w.reg(i.A).whole)))
	case i.Op == 18:
		x := number(w.at(i.A, 0))
		w.putWhole(i.D, wantInt(x < 0 || x > 0))
	case i.Op <= 20:
		w.put(i.D, 0, wantGathered(i.Op, w.reg(i.A).patterns))
	case i.Op <= 28:
		w.wholes(i)
	default:
		w.move(i, element)
	}
}

// elementwise: OpCopy has whole numbers too.
func (w *words) elementwise(i api.Inst, element int) {
	if w.code.Regs[i.D].Kind == 2 {
		w.putWhole(i.D, w.reg(i.A).whole)
		return
	}
	a, b, c := w.at(i.A, element), api.F(0), api.F(0)
	if i.Op >= 4 && i.Op <= 10 || i.Op == 15 {
		b = w.at(i.B, element)
	}
	if i.Op == 15 {
		c = w.at(i.C, element)
	}
	w.put(i.D, element, wantElement(i.Op, a, b, c))
}

// wantGathered is the sum, or the least, of patterns.
func wantGathered(op int, list []api.F) api.F {
	x := float32(0)
	if op == 20 {
		x = float32(math.Inf(1))
	}
	for _, a := range list {
		if op == 20 {
			x = lesser(x, number(a))
		} else {
			x = float32(x + number(a))
		}
	}
	return told(x)
}

func (w *words) wholes(i api.Inst) {
	a, b, c := w.reg(i.A).whole, 0, 0
	if i.Op != 21 && i.Op != 25 {
		b = w.reg(i.B).whole
	}
	if i.Op == 26 {
		c = w.reg(i.C).whole
	}
	w.putWhole(i.D, wantWhole(i.Op, a, b, c))
}

// move: what goes in and out, and slots.
func (w *words) move(i api.Inst, element int) {
	switch i.Op {
	case 29, 30:
		vectors := [][][]api.F{w.grads, w.params}[i.Op-29]
		p := w.code.Regs[i.D].Param
		w.put(i.D, element, told(number(vectors[p][element*w.code.Sign[p].Kind+i.N])))
	case 31:
		p := w.code.Regs[i.A].Param
		w.answer[p][element*w.code.Sign[p].Kind+i.N] = w.at(i.A, element)
	case 32:
		if w.code.Regs[i.D].Kind == 2 {
			w.putWhole(i.D, w.slots[i.N].whole)
		} else {
			w.put(i.D, element, w.slots[i.N].patterns[element])
		}
	case 33:
		if w.code.Regs[i.A].Kind == 2 {
			w.slots[i.N].whole = w.reg(i.A).whole
		} else {
			w.slots[i.N].patterns[element] = w.at(i.A, element)
		}
	}
}
