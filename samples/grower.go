package samples

import (
	"slices"
	"strconv"
	"strings"

	"lathe/api"
)

// A Grower makes well formed codes from all over, and vectors for them. Each instruction fits its row, and reads what is set by then.
type Grower struct{ Source }

// Below is a whole number from 0 to limit - 1; 0, if there is none.
func (g *Grower) Below(limit int) int { return int(g.Next()>>3) % max(limit, 1) }

// Signature has up to three parameters, of few elements.
func (g *Grower) Signature() []api.Param {
	var list []api.Param
	for i := range g.Below(4) {
		list = append(list, api.Param{Name: "p" + strconv.Itoa(i), Kind: 1 + g.Below(2), Len: 1 + g.Below(4)})
	}
	return list
}

// Pattern is any: often a number near one, sometimes an edge, a NaN too.
func (g *Grower) Pattern() api.F {
	switch g.Below(8) {
	case 0:
		return g.Next()
	case 1, 2:
		return Edges()[g.Below(len(Edges()))]
	case 3:
		return 0
	}
	return g.Near(0x3f800000, 3)
}

// Told is a pattern that may be told.
func (g *Grower) Told() api.F {
	if a := g.Pattern(); !IsNaN(a) {
		return a
	}
	return 0x7fc00000
}

// Whole is from 0 to MaxCount: often small, sometimes about the greatest.
func (g *Grower) Whole() int {
	switch g.Below(6) {
	case 0:
		return 1<<31 - 1 - g.Below(2)
	case 1:
		return int(g.Next() >> 1)
	}
	return g.Below(4)
}

// Vectors are some that fit a signature.
func (g *Grower) Vectors(list []api.Param) [][]api.F {
	vectors := make([][]api.F, len(list))
	for p, param := range list {
		for range param.Len * param.Kind {
			vectors[p] = append(vectors[p], g.Pattern())
		}
	}
	return vectors
}

func (g *Grower) typed(params int) api.Type {
	kind := 1 + g.Below(6)
	if params == 0 || kind <= api.TypeWhole {
		return api.Type{Kind: 1 + kind%2}
	}
	return api.Type{Kind: api.TypeVector, Param: g.Below(params)}
}

func (g *Grower) slot(params int) api.Slot {
	s := api.Slot{Type: g.typed(params), Keep: g.Below(2) == 0}
	if s.Type.Kind == api.TypeWhole {
		s.Int = g.Whole()
	} else {
		s.Bits = g.Told()
	}
	return s
}

// Code has at most so many instructions, and a few more that end blocks and hand out what the registers hold at the end.
func (g *Grower) Code(most int) api.Code {
	grows := &growth{Grower: g, code: api.Code{Sign: g.Signature()}}
	for range 1 + g.Below(14) {
		grows.newRegister(g.typed(len(grows.code.Sign)))
	}
	return grows.grown(most)
}

// SingleCode is such a code in which no register is the D of two instructions.
func (g *Grower) SingleCode(most int) api.Code {
	grows := &growth{Grower: g, code: api.Code{Sign: g.Signature()}, isSingle: true}
	return grows.grown(most)
}

// IsSingle tells whether no register is the D of two instructions.
func IsSingle(c api.Code) bool {
	isSet := make([]bool, len(c.Regs))
	for _, i := range c.List {
		if rows[i.Op][0] == '-' {
			continue
		}
		if isSet[i.D] {
			return false
		}
		isSet[i.D] = true
	}
	return true
}

// A growth is a code on its way.
type growth struct {
	*Grower
	code     api.Code
	isSingle bool  // each instruction has a new register to set
	set      []int // the registers that are set here, in the order in which they were
	open     []openBlock
}

// grown is the code with slots and instructions.
func (g *growth) grown(most int) api.Code {
	for range g.Below(8) {
		g.code.Slots = append(g.code.Slots, g.slot(len(g.code.Sign)))
	}
	count := g.Below(most + 1)
	for tries := 0; len(g.code.List) < count && tries < 20*most; tries++ {
		g.try()
	}
	for len(g.open) > 0 {
		g.leave()
	}
	g.handOut()
	return g.code
}

func (g *growth) newRegister(t api.Type) int {
	g.code.Regs = append(g.code.Regs, t)
	return len(g.code.Regs) - 1
}

type openBlock struct {
	begins api.Inst
	ahead  int // how many registers were set ahead of it
}

// rows have a letter for each of D, A, B, C: n, w, v, d, x, t as in the chapter of code; then one for the rest: b Bits, c a whole
// number, p a part, s a slot, m a parameter; '-' where there is nothing.
var rows = [...]string{
	api.OpNumber: "n---b", api.OpWhole: "w---c", api.OpCopy: "tx---",
	api.OpAdd: "dxx--", api.OpSub: "dxx--", api.OpMul: "dxx--", api.OpDiv: "dxx--", api.OpMin: "dxx--", api.OpMax: "dxx--", api.OpLess: "dxx--",
	api.OpSqrt: "dx---", api.OpNeg: "dx---", api.OpAbs: "dx---", api.OpFinite: "dx---", api.OpSelect: "dxxx-",
	api.OpPower: "nnw--", api.OpFrom: "nw---", api.OpTest: "wn---", api.OpSum: "nv---", api.OpLeast: "nv---",
	api.OpInc: "ww---", api.OpLess2: "www--", api.OpSame: "www--", api.OpAnd: "www--", api.OpNot: "ww---", api.OpChoose: "wwww-", api.OpMinus: "www--", api.OpOver: "www--",
	api.OpGrad: "v---p", api.OpParam: "v---p", api.OpOut: "-v--p", api.OpLoad: "t---s", api.OpStore: "-t--s",
	api.OpWhen: "-w---", api.OpEnd: "-----", api.OpLoop: "----m", api.OpNext: "-----",
}

// loopType is the type of the vectors of the loop that is open; false, if none is.
func (g *growth) loopType() (api.Type, bool) {
	if len(g.open) == 0 || g.open[len(g.open)-1].begins.Op != api.OpLoop {
		return api.Type{}, false
	}
	return api.Type{Kind: api.TypeVector, Param: g.open[len(g.open)-1].begins.N}, true
}

// try puts an instruction to the code, if the one that comes up can stand there.
func (g *growth) try() {
	op := 1 + g.Below(len(rows)-1)
	loop, isLooped := g.loopType()
	switch {
	case op == api.OpEnd || op == api.OpNext || g.Below(16) == 0:
		if len(g.open) > 0 {
			g.leave()
		}
	case isLooped && !strings.ContainsAny(rows[op], "xps"): // none of those that work on vectors
	default:
		registers := len(g.code.Regs)
		if i, ok := g.instruction(op, loop, isLooped); ok {
			g.put(i)
		} else {
			g.code.Regs = g.code.Regs[:registers]
		}
	}
}

// put goes on behind an instruction.
func (g *growth) put(i api.Inst) {
	g.code.List = append(g.code.List, i)
	if i.Op == api.OpWhen || i.Op == api.OpLoop {
		g.open = append(g.open, openBlock{i, len(g.set)})
	}
	if rows[i.Op][0] != '-' && !slices.Contains(g.set, i.D) {
		g.set = append(g.set, i.D)
	}
}

// leave ends the innermost block.
func (g *growth) leave() {
	last := g.open[len(g.open)-1]
	g.open = g.open[:len(g.open)-1]
	g.code.List = append(g.code.List, api.Inst{Op: last.begins.Op + 1})
	if last.begins.Op == api.OpWhen {
		g.set = g.set[:last.ahead]
	}
}

// handOut stores registers at the end, and makes them updates.
func (g *growth) handOut() {
	for _, register := range slices.Clone(g.set) {
		for n, s := range g.code.Slots {
			if s.Type == g.code.Regs[register] && g.Below(3) == 0 {
				g.put(api.Inst{Op: api.OpStore, A: register, N: n})
			}
		}
		if is := g.code.Regs[register]; is.Kind == api.TypeVector && g.Below(2) == 0 {
			g.put(api.Inst{Op: api.OpOut, A: register, N: g.Below(g.code.Sign[is.Param].Kind)})
		}
	}
}

// instruction is one of that Op, if the code has what it asks for. In a loop the register that leads it is of the loop's type.
func (g *growth) instruction(op int, loop api.Type, isLooped bool) (api.Inst, bool) {
	i, letters := api.Inst{Op: op}, rows[op]
	lead := letters[0]
	places := []*int{&i.D, &i.A, &i.B, &i.C}
	if lead == '-' {
		lead, places = letters[1], places[1:]
		letters = letters[1:]
	}
	if lead == '-' {
		return g.rest(i, letters[3], api.Type{})
	}
	ok := false
	will := func(t api.Type) bool { return means(lead, t, t) && (!isLooped || t == loop) }
	if isSetting := rows[op][0] != '-'; isSetting && g.isSingle {
		*places[0], ok = g.fresh(will)
	} else {
		*places[0], ok = g.choose(isSetting, will)
	}
	if !ok {
		return i, false
	}
	main := g.code.Regs[*places[0]]
	for k := 1; k < len(places); k++ {
		if letters[k] == '-' {
			continue
		}
		*places[k], ok = g.choose(false, func(t api.Type) bool { return means(letters[k], t, main) })
		if !ok {
			return i, false
		}
	}
	return g.rest(i, letters[len(letters)-1], main)
}

// means tells whether a letter means a register of that type beside one that leads.
func means(letter byte, t, main api.Type) bool {
	switch letter {
	case 'n':
		return t.Kind == api.TypeNumber
	case 'w':
		return t.Kind == api.TypeWhole
	case 'v':
		return t.Kind == api.TypeVector
	case 'd':
		return t.Kind != api.TypeWhole
	case 'x':
		return t == main || t.Kind == api.TypeNumber && main.Kind == api.TypeVector
	}
	return t == main
}

// choose is a register whose type will do, of all or of those that are set.
func (g *growth) choose(all bool, will func(t api.Type) bool) (int, bool) {
	var list []int
	for register, t := range g.code.Regs {
		if will(t) && (all || slices.Contains(g.set, register)) {
			list = append(list, register)
		}
	}
	if len(list) == 0 {
		return 0, false
	}
	return list[g.Below(len(list))], true
}

// fresh is a new register of a type that will do.
func (g *growth) fresh(will func(t api.Type) bool) (int, bool) {
	list := []api.Type{{Kind: api.TypeNumber}, {Kind: api.TypeWhole}}
	for param := range g.code.Sign {
		list = append(list, api.Type{Kind: api.TypeVector, Param: param})
	}
	list = slices.DeleteFunc(list, func(t api.Type) bool { return !will(t) })
	if len(list) == 0 {
		return 0, false
	}
	return g.newRegister(list[g.Below(len(list))]), true
}

// rest is the instruction with N or Bits.
func (g *growth) rest(i api.Inst, letter byte, main api.Type) (api.Inst, bool) {
	switch letter {
	case 'b':
		i.Bits = g.Told()
	case 'c':
		i.N = g.Whole()
	case 'p':
		i.N = g.Below(g.code.Sign[main.Param].Kind)
	case 's':
		return g.withSlot(i, main)
	case 'm':
		i.N = g.Below(len(g.code.Sign))
		return i, len(g.code.Sign) > 0 && len(g.open) < api.MaxNest
	}
	return i, i.Op != api.OpWhen || len(g.open) < api.MaxNest
}

// withSlot is the instruction with a slot of that type, if there is one.
func (g *growth) withSlot(i api.Inst, main api.Type) (api.Inst, bool) {
	var list []int
	for n, s := range g.code.Slots {
		if s.Type == main {
			list = append(list, n)
		}
	}
	if len(list) == 0 {
		return i, false
	}
	i.N = list[g.Below(len(list))]
	return i, true
}
