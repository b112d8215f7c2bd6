package vm

import (
	"lathe/api"
	"lathe/sign"
)

// A step is one way through the instructions of a frame's program.
type step struct {
	*frame
	grads, params, updates [][]api.F

	spent    int
	isLooped bool
	loop     int // the place of the OpLoop that began it
	element  int // the one whose turn it is; 0 where there is no loop
	last     int // the last one that has a turn
}

func newStep(f *frame, grads, params [][]api.F) *step {
	s := &step{frame: f, grads: grads, params: params, updates: make([][]api.F, len(f.program.Sign))}
	for n, p := range f.program.Sign {
		s.updates[n] = make([]api.F, sign.Numbers(p))
	}
	return s
}

// goThrough does the instructions, from the first one on.
func (s *step) goThrough() {
	at := 0
next:
	if at == len(s.program.List) {
		return
	}
	i := &s.program.List[at]
	if s.element == 0 { // what stands in a loop is paid once, for all elements together
		s.spent += s.program.costs[at]
	}
	switch i.Op {
	case api.OpWhen:
		if s.count(i.A) == 0 {
			at = s.program.ends[at] + 1
			goto next
		}
	case api.OpLoop:
		s.enter(at)
	case api.OpNext:
		if s.turn() {
			at = s.loop + 1
			goto next
		}
	case api.OpEnd:
	default:
		s.do(i)
	}
	at++
	goto next
}

// enter begins a loop with the first element. A loop with nothing in it has no turns for the others: nobody has paid for them.
func (s *step) enter(at int) {
	s.isLooped, s.loop, s.last = true, at, 0
	if list := s.program.List; list[at+1].Op != api.OpNext {
		s.last = s.program.Sign[list[at].N].Len - 1
	}
}

// turn goes on with the next element; false, if there is none: then the loop is over.
func (s *step) turn() bool {
	if s.element < s.last {
		s.element++
		return true
	}
	s.isLooped, s.element = false, 0
	return false
}

// reach is for which numbers of a cell an instruction is done: from first on, ahead of past.
func (s *step) reach(c *cell) (first, past int) {
	if s.isLooped {
		return s.element, s.element + 1
	}
	return 0, len(c.numbers)
}

// do does an instruction that is no mark of a block or a loop.
func (s *step) do(i *api.Inst) {
	switch i.Op {
	case api.OpNumber, api.OpPower, api.OpFrom, api.OpSum, api.OpLeast:
		s.registers[i.D].numbers[0] = s.number(i)
	case api.OpWhole, api.OpTest, api.OpInc, api.OpLess2, api.OpSame, api.OpAnd, api.OpNot, api.OpChoose, api.OpMinus, api.OpOver:
		s.registers[i.D].whole = s.whole(i)
	case api.OpGrad:
		s.take(i, s.grads)
	case api.OpParam:
		s.take(i, s.params)
	case api.OpOut:
		s.out(i)
	case api.OpLoad:
		s.move(&s.registers[i.D], &s.cells[i.N])
	case api.OpStore:
		s.move(&s.cells[i.N], &s.registers[i.A])
	default:
		s.elementwise(i)
	}
}

// elementwise does one of those from OpCopy to OpSelect.
func (s *step) elementwise(i *api.Inst) {
	d := &s.registers[i.D]
	if d.isWhole() { // an OpCopy: the others have no whole numbers
		d.whole = s.count(i.A)
		return
	}
	first, past := s.reach(d)
	for place := first; place < past; place++ {
		d.numbers[place] = s.reckon(i, place)
	}
}

// move makes a cell hold what another one of its type does.
func (s *step) move(to, from *cell) {
	first, past := s.reach(to)
	to.assign(from, first, past)
}

// take makes D the part N of D's parameter, of the gradients or of the parameters.
func (s *step) take(i *api.Inst, vectors [][]api.F) {
	param := s.program.Regs[i.D].Param
	from, apart := vectors[param], s.program.apart(param)
	d := &s.registers[i.D]
	first, past := s.reach(d)
	for place := first; place < past; place++ {
		d.numbers[place] = value(from[apart*place+i.N])
	}
}

// out makes A the part N of the update of A's parameter.
func (s *step) out(i *api.Inst) {
	param := s.program.Regs[i.A].Param
	to, apart := s.updates[param], s.program.apart(param)
	a := &s.registers[i.A]
	first, past := s.reach(a)
	for place := first; place < past; place++ {
		to[apart*place+i.N] = pattern(a.numbers[place])
	}
}
