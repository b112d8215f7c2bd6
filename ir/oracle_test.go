package ir

import (
	"slices"
	"strconv"
	"strings"

	"lathe/api"
	"lathe/samples"
	"lathe/sign"
)

// The chapter's words once more, over texts, place by place from the beginning: slow, and with nothing of the package's own.

// table has a word for each Op: letters of D, A, B, C and of the rest; '-' where the row names nothing. 's' is A of OpCopy.
// Of the rest: b Bits, c a whole number, p a part, s a slot, m a parameter.
func table() map[int]string {
	rows := map[int]string{}
	for _, line := range strings.Split(`Number n---b
Whole w---c
Copy ts---
Add Sub Mul Div Min Max Less dxx--
Sqrt Neg Abs Finite dx---
Select dxxx-
Power nnw--
From nw---
Test wn---
Sum Least nv---
Inc Not ww---
Less2 Same And Minus Over www--
Choose wwww-
Grad Param v---p
Out -v--p
Load t---s
Store -t--s
When -w---
End -----
Loop ----m
Next -----`, "\n") {
		words := strings.Fields(line)
		letters := words[len(words)-1]
		for _, name := range words[:len(words)-1] {
			rows[1+slices.Index(names(), name)] = letters
		}
	}
	return rows
}

// rowsByOp is the table, made once.
var rowsByOp = table()

// typeWord is a type as a word: n, w, or v and the parameter; empty, if it may not be.
func typeWord(t api.Type, params int) string {
	switch {
	case t == api.Type{Kind: 1}:
		return "n"
	case t == api.Type{Kind: 2}:
		return "w"
	case t.Kind == 3 && t.Param >= 0 && t.Param < params:
		return "v" + strconv.Itoa(t.Param)
	}
	return ""
}

func registerWord(c api.Code, register int) string {
	if register < 0 || register >= len(c.Regs) {
		return ""
	}
	return typeWord(c.Regs[register], len(c.Sign))
}

// wantFits tells whether an instruction fits its row.
func wantFits(c api.Code, i api.Inst) bool {
	row, ok := rowsByOp[i.Op]
	if !ok {
		return false
	}
	words := make([]string, 4)
	fields := []int{i.D, i.A, i.B, i.C}
	for k, register := range fields {
		words[k] = registerWord(c, register)
	}
	for k, word := range words {
		if row[k] == '-' && fields[k] != 0 || row[k] != '-' && !wantWord(row[k], word, words[0]) {
			return false
		}
	}
	whose := words[0]
	if row[0] == '-' {
		whose = words[1]
	}
	return wantRest(c, row[4], i, whose)
}

// wantWord tells whether a register's type is one that the letter means, where D's is that.
func wantWord(letter byte, word, d string) bool {
	switch letter {
	case 'n', 'w':
		return word == string(letter)
	case 'v':
		return strings.HasPrefix(word, "v")
	case 'd':
		return word == "n" || strings.HasPrefix(word, "v")
	case 'x':
		return word == "n" || word != "" && word == d
	case 's':
		return word != "" && word == d || word == "n" && strings.HasPrefix(d, "v")
	}
	return word != "" // t, of which no row has two but OpCopy's
}

// wantRest tells whether N and Bits are as the row says; whose is the type of the register that it speaks of.
func wantRest(c api.Code, letter byte, i api.Inst, whose string) bool {
	low, high := 0, 0
	switch letter {
	case 'b':
		return i.N == 0 && samples.IsTold(i.Bits)
	case 'c':
		high = 2147483647
	case 'm':
		high = len(c.Sign) - 1
	case 's':
		high = len(c.Slots) - 1
	case 'p':
		param, _ := strconv.Atoi(whose[1:])
		high = c.Sign[param].Kind - 1
	}
	if i.Bits != 0 || i.N < low || i.N > high {
		return false
	}
	return letter != 's' || typeWord(c.Slots[i.N].Type, len(c.Sign)) == whose
}

// openAt are the places of the OpWhens and OpLoops whose blocks are open behind these instructions, in which none is at fault.
func openAt(list []api.Inst) []int {
	var open []int
	for at, i := range list {
		switch i.Op {
		case api.OpWhen, api.OpLoop:
			open = append(open, at)
		case api.OpEnd, api.OpNext:
			open = slices.Clone(open[:len(open)-1])
		}
	}
	return open
}

// whens are those of OpWhens.
func whens(list []api.Inst, places []int) []int {
	return slices.DeleteFunc(slices.Clone(places), func(at int) bool { return list[at].Op != api.OpWhen })
}

// wantStands tells whether an instruction that fits its row may stand behind those ahead of it.
func wantStands(c api.Code, at int) bool {
	i, open := c.List[at], openAt(c.List[:at])
	innermost, param := 0, 0
	if len(open) > 0 {
		innermost, param = c.List[open[len(open)-1]].Op, c.List[open[len(open)-1]].N
	}
	switch name := names()[i.Op-1]; name {
	case "When", "Loop":
		return len(open) < 64 && innermost != api.OpLoop
	case "End":
		return innermost == api.OpWhen
	case "Next":
		return innermost == api.OpLoop
	default:
		if innermost != api.OpLoop {
			return true
		}
		loopVector := "v" + strconv.Itoa(param)
		switch {
		case strings.Contains(" Copy Add Sub Mul Div Min Max Less Sqrt Neg Abs Finite Select Grad Param Load ", " "+name+" "):
			return registerWord(c, i.D) == loopVector
		case name == "Out" || name == "Store":
			return registerWord(c, i.A) == loopVector
		}
		return false
	}
}

// wantReads are the registers that an instruction reads.
func wantReads(i api.Inst) []int {
	var list []int
	for k, register := range []int{i.A, i.B, i.C} {
		if row, ok := rowsByOp[i.Op]; ok && row[k+1] != '-' {
			list = append(list, register)
		}
	}
	return list
}

func wantSets(i api.Inst) bool {
	row, ok := rowsByOp[i.Op]
	return ok && row[0] != '-'
}

// wantSet tells whether a register is set at a place: by an instruction ahead of it all of whose OpWhens are the place's too.
func wantSet(list []api.Inst, at, register int) bool {
	here := openAt(list[:at])
	for k, i := range list[:at] {
		if wantSets(i) && i.D == register && isWithin(whens(list, openAt(list[:k])), here) {
			return true
		}
	}
	return false
}

func isWithin(few, many []int) bool {
	for _, n := range few {
		if !slices.Contains(many, n) {
			return false
		}
	}
	return true
}

// wantFault tells whether the instruction at a place is at fault, where none ahead of it is.
func wantFault(c api.Code, at int) bool {
	if !wantFits(c, c.List[at]) || !wantStands(c, at) {
		return true
	}
	return slices.ContainsFunc(wantReads(c.List[at]), func(register int) bool { return !wantSet(c.List, at, register) })
}

// wantAhead is the error of all but the instructions.
func wantAhead(c api.Code) api.Errno {
	if e := sign.Check(c.Sign); e != api.OK {
		return e
	}
	if len(c.Regs) > 16384 || len(c.List) > 32768 {
		return errSize
	}
	if len(c.Slots) > 4096 {
		return errSlots
	}
	for _, r := range c.Regs {
		if typeWord(r, len(c.Sign)) == "" {
			return errCode
		}
	}
	for _, s := range c.Slots {
		word := typeWord(s.Type, len(c.Sign))
		asWhole := s.Bits == 0 && s.Int >= 0 && s.Int <= 2147483647
		asNumbers := s.Int == 0 && samples.IsTold(s.Bits)
		if word == "" || word == "w" && !asWhole || word != "w" && !asNumbers {
			return errCode
		}
	}
	return api.OK
}

// wantCheck is what Check answers.
func wantCheck(c api.Code) (api.Errno, int) {
	if e := wantAhead(c); e != api.OK {
		return e, -1
	}
	for at := range c.List {
		if wantFault(c, at) {
			return errCode, at
		}
	}
	if len(openAt(c.List)) > 0 {
		return errCode, len(c.List)
	}
	return api.OK, 0
}

// wantKept is what Kept answers.
func wantKept(c api.Code) (int, int) {
	slots, numbers := 0, 0
	for _, s := range c.Slots {
		if !s.Keep {
			continue
		}
		slots++
		switch s.Type.Kind {
		case 1, 2:
			numbers++
		case 3:
			if s.Type.Param >= 0 && s.Type.Param < len(c.Sign) {
				numbers += c.Sign[s.Type.Param].Len
			}
		}
	}
	return slots, numbers
}
