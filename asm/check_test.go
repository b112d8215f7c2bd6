package asm

import (
	"fmt"
	"slices"
	"strings"
	"testing"

	"lathe/api"
	"lathe/ir"
	"lathe/samples"
)

// holdNoText: AS1 and rule 2, Text tells ErrCode, and nothing beside it.
func holdNoText(t *testing.T, c api.Code) {
	t.Helper()
	if text, e := Text(c); e != errCode || text != "" {
		t.Errorf("Text = %s, %d: %s", short(text), e, samples.Show(c))
	}
}

// TestNoText: AS1, code that is not well formed has the error ErrCode, whichever ir.Check tells.
func TestNoText(t *testing.T) {
	seen := map[api.Errno]bool{}
	for _, c := range samples.Broken() {
		e, _ := ir.Check(c)
		seen[e] = true
		holdNoText(t, c)
	}
	if seen[api.OK] || len(seen) < 7 {
		t.Errorf("%v", seen)
	}
	c := samples.EveryOp()
	for at, i := range c.List { // a field that a row does not name is not left out
		for _, letter := range []byte("DABCN=") {
			if strings.Contains(samples.Fields()[i.Op-1], string(letter)) {
				continue
			}
			d := samples.CloneCode(c)
			if field := samples.Field(&d.List[at], letter); field != nil {
				*field = 1
			} else {
				d.List[at].Bits = api.One
			}
			holdNoText(t, d)
		}
	}
	for _, name := range []string{"", "a b", "a\n", "\u00e9", strings.Repeat("n", maxName+1)} {
		holdNoText(t, api.Code{Sign: []api.Param{{Name: name, Kind: 1, Len: 1}}})
	}
	for _, op := range []int{0, -1, 38, 1 << 40} {
		holdNoText(t, api.Code{List: []api.Inst{{Op: op}}})
	}
}

// canBeText tells whether each line of code has its form, though the code may be at fault.
func canBeText(c api.Code) bool {
	isNumber := func(n int) bool { return 0 <= n && n <= maxCount }
	for _, p := range c.Sign {
		if p.Kind < 1 || p.Kind > 2 || p.Len < 1 || p.Len > maxLen {
			return false
		}
	}
	for _, is := range c.Regs {
		if is.Kind < 1 || is.Kind > 3 || is.Kind < 3 && is.Param != 0 || !isNumber(is.Param) {
			return false
		}
	}
	for _, s := range c.Slots {
		if s.Type.Kind < 1 || s.Type.Kind > 3 || !isNumber(s.Int) {
			return false
		}
	}
	for _, i := range c.List {
		if i.Op < 1 || i.Op > 37 {
			return false
		}
		for _, letter := range []byte("DABCN=") {
			field := samples.Field(&i, letter)
			isNamed := strings.Contains(samples.Fields()[i.Op-1], string(letter))
			if field != nil && (!isNumber(*field) || !isNamed && *field != 0) || field == nil && !isNamed && i.Bits != 0 {
				return false
			}
		}
	}
	return true
}

// holdLine: AS2, the text of code that is not well formed has ErrCode, with the line of the instruction where there is one.
func holdLine(t *testing.T, c api.Code) {
	t.Helper()
	e, place := ir.Check(c)
	if e == api.OK {
		t.Errorf("it is well formed: %s", samples.Show(c))
	}
	line := 0
	if place >= 0 && place < len(c.List) {
		line = strings.Count(wantText(api.Code{Sign: c.Sign, Regs: c.Regs, Slots: c.Slots, List: c.List[:place]}), "\n") + 1
	}
	holdRefused(t, wantText(c), errCode, line)
}

// TestRightLines: AS2, texts that are right line by line, but whose code is not well formed, for every reason.
func TestRightLines(t *testing.T) {
	count := 0
	for _, c := range samples.Broken() {
		if canBeText(c) {
			count++
			holdLine(t, c)
		}
	}
	if count < 50 {
		t.Errorf("only %d", count)
	}
	g, taken, refused := &samples.Grower{Source: 31}, 0, 0
	for range 10000 {
		c := g.Code(30)
		if len(c.List) == 0 {
			continue
		}
		*samples.Field(&c.List[g.Below(len(c.List))], "DABCN?"[g.Below(6)]) += g.Below(5) - 2
		if e, _ := ir.Check(c); e == api.OK {
			taken++
			holdTaken(t, wantText(c), c)
		} else {
			holdNoText(t, c)
			if canBeText(c) {
				refused++
				holdLine(t, c)
			}
		}
	}
	if min(taken, refused) < 1000 {
		t.Errorf("%d taken, %d refused", taken, refused)
	}
}

// TestFaultsByHand: AS2, the line of the instruction at fault; 0, where the fault is no instruction's, also if a block is open behind the
// last one. Those with -1 are well formed.
func TestFaultsByHand(t *testing.T) {
	for text, line := range map[string]int{
		"number r4 00000000":                      33,
		"number r0 00000000; number r18 00000000": 34,
		"neg r1 r0":                         33,
		"end":                               33,
		"next":                              33,
		"whole r4 1; end":                   34,
		"whole r4 1; when r4; next":         35,
		"whole r4 1; when r4":               0,
		"loop 0":                            0,
		"whole r4 1; when r4; when r4; end": 0,
		"whole r4 1; when r4; number r0 00000000; end":            -1,
		"whole r4 1; when r4; number r0 00000000; end; neg r1 r0": 37,
		"loop 3; next": 33,
		"grad r8 1":    33,
		"grad r12 1":   -1,
		"load r0 1":    33,
		"load r0 10":   33,
		"whole r4 2147483647; whole r5 0; below r6 r4 r5; choose r6 r6 r4 r3": 36,
		"loop 0; number r0 00000000; next":                                    34,
		"number r0 7fc00001":                                                  33,
		"number r0 ffc00000; number r0 7fc00001":                              33,
	} {
		if line >= 0 {
			holdRefused(t, usualLines+lines(text), errCode, line)
		} else if _, e, at := Parse(usualLines + lines(text)); e != api.OK || at != 0 {
			t.Errorf("%s: %d at %d", text, e, at)
		}
	}
	holdRefused(t, lines("lathe 1; end"), errCode, 2)
	holdRefused(t, lines("lathe 1; reg 0 whole; when r0"), errCode, 3)
	holdRefused(t, lines("lathe 1; loop 0"), errCode, 2)
	holdRefused(t, lines("lathe 1; param w real 1; loop 0"), errCode, 0)
	holdRefused(t, lines("lathe 1; param w real 1; loop 0; next; loop 0; next; next"), errCode, 7)
	holdRefused(t, lines("lathe 1; reg 0 vector 0"), errCode, 0)
	holdRefused(t, lines("lathe 1; reg 0 vector 0; grad r0 0"), errCode, 0)
	holdRefused(t, lines("lathe 1; param w real 1; reg 0 vector 1; end"), errCode, 0)
	holdRefused(t, lines("lathe 1; slot 0 keep vector 0 00000000"), errCode, 0)
	holdRefused(t, lines("lathe 1; slot 0 keep number 7f800001; end"), errCode, 0)
	for depth := maxNest - 1; depth <= maxNest+2; depth++ {
		text := "lathe 1\nreg 0 whole\nwhole r0 0\n" + strings.Repeat("when r0\n", depth)
		if depth > maxNest {
			holdRefused(t, text, errCode, 4+maxNest)
			holdRefused(t, text+strings.Repeat("end\n", depth), errCode, 4+maxNest)
		} else {
			holdRefused(t, text, errCode, 0)
			holdRefused(t, text+strings.Repeat("end\n", depth+1), errCode, 4+2*depth)
		}
	}
}

// TestTotal: AS2, parameters whose lines are right, but which have too many numbers in all.
func TestTotal(t *testing.T) {
	text := "lathe 1\n"
	for n := range 16 {
		text += fmt.Sprintf("param w%d real 4096\n", n)
	}
	if c, e, _ := Parse(text); e != api.OK || len(c.Sign) != 16 {
		t.Errorf("%d", e)
	}
	holdRefused(t, text+"param b real 1\n", errCode, 0)
	holdRefused(t, text+"param b real 1\nend\n", errCode, 0)
	holdRefused(t, text+"param b real 1\nend\nfly\n", errLine, 20)
	holdRefused(t, "lathe 1\n"+strings.Join(slices.Repeat([]string{"param w real 1\n"}, 2), ""), errCode, 0)
}
