package alloc

import (
	"math/bits"
	"slices"

	"lathe/api"
	"lathe/ir"
)

// A set is one of registers, a bit each: it is copied at the end of each block, of which there may be thousands.
type set []uint64

func newSet(registers int) set { return make(set, (registers+63)/64) }

func (s set) has(register int) bool { return s[register/64]>>(register%64)&1 == 1 }

// turn puts a register in that is not there, and takes one out that is.
func (s set) turn(register int) { s[register/64] ^= 1 << (register % 64) }

// A life goes through code from its end to its beginning, and knows which registers are alive. No way leads back, so that once is enough.
type life struct {
	code   *api.Code
	alive  set
	counts []int // by sort: how many are alive
	behind []set // of each block of OpWhen that the life is in, the innermost last: what is alive behind its OpEnd
}

// goBack tells of each place, the last one first, what is alive behind it.
func goBack(c *api.Code, tell func(place int, l *life)) {
	l := &life{code: c, alive: newSet(len(c.Regs)), counts: make([]int, vectors+len(c.Sign))}
	for place, i := range slices.Backward(c.List) {
		l.join(i)
		tell(place, l)
		l.pass(i)
	}
}

// join comes from the instruction that follows to what is alive behind this one: behind an OpWhen that is also what is alive where its
// block is left out.
func (l *life) join(i api.Inst) {
	switch i.Op {
	case api.OpEnd:
		l.behind = append(l.behind, slices.Clone(l.alive))
	case api.OpWhen:
		last := len(l.behind) - 1
		for n, word := range l.behind[last] {
			for more := word &^ l.alive[n]; more != 0; more &= more - 1 {
				l.begin(64*n + bits.TrailingZeros64(more))
			}
		}
		l.behind = l.behind[:last]
	}
}

// pass comes from what is alive behind an instruction to what is alive ahead of it.
func (l *life) pass(i api.Inst) {
	if ir.Sets(i) && l.alive.has(i.D) {
		l.alive.turn(i.D)
		l.counts[sortOf(l.code.Regs[i.D])]--
	}
	for _, register := range ir.Reads(i) {
		l.begin(register)
	}
}

// begin counts a register among those that are alive.
func (l *life) begin(register int) {
	if !l.alive.has(register) {
		l.alive.turn(register)
		l.counts[sortOf(l.code.Regs[register])]++
	}
}
