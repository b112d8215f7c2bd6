package asm

import (
	"fmt"
	"regexp"
	"slices"
	"strconv"
	"strings"
	"testing"

	"lathe/api"
	"lathe/ir"
	"lathe/samples"
)

// opNames are the words of the instructions, the first one of Op 1.
var opNames = strings.Fields("number whole copy add sub mul div min max less sqrt neg abs finite select power from test sum least inc below same and not choose minus over grad param out load store when end loop next")

// typeNames are the words of types, the first one of TypeNumber.
var typeNames = []string{"number", "whole", "vector"}

// wantText is the text of code by the chapter's words, also of one that is at fault, as long as its kinds are known.
func wantText(c api.Code) string {
	var b strings.Builder
	b.WriteString("lathe 1\n")
	for _, p := range c.Sign {
		fmt.Fprintf(&b, "param %s %s %d\n", p.Name, []string{"real", "complex"}[p.Kind-1], p.Len)
	}
	for n, is := range c.Regs {
		fmt.Fprintf(&b, "reg %d %s%s\n", n, typeNames[is.Kind-1], []string{"", "", fmt.Sprintf(" %d", is.Param)}[is.Kind-1])
	}
	for n, s := range c.Slots {
		fmt.Fprintf(&b, "slot %d %s ", n, map[bool]string{true: "keep", false: "local"}[s.Keep])
		switch s.Type.Kind {
		case 1:
			fmt.Fprintf(&b, "number %08x\n", uint32(s.Bits))
		case 2:
			fmt.Fprintf(&b, "whole %d\n", s.Int)
		case 3:
			fmt.Fprintf(&b, "vector %d %08x\n", s.Type.Param, uint32(s.Bits))
		}
	}
	for _, i := range c.List {
		b.WriteString(opNames[i.Op-1])
		for _, letter := range strings.Trim(samples.Fields()[i.Op-1], "-") {
			switch letter {
			case '=':
				fmt.Fprintf(&b, " %08x", uint32(i.Bits))
			case 'N':
				fmt.Fprintf(&b, " %d", i.N)
			default:
				fmt.Fprintf(&b, " r%d", *samples.Field(&i, byte(letter)))
			}
		}
		b.WriteByte('\n')
	}
	return b.String()
}

// The chapter's words as patterns: a number's text, as far as its digits go, and hexadecimal.
const (
	digits = `(0|[1-9][0-9]{0,9})`
	eight  = `([0-9a-f]{8})`
)

// A form is a sort of line: what such a line must be, and what it puts into the code. It tells whether its numbers may stand there.
type form struct {
	line *regexp.Regexp
	put  func(c *api.Code, words []string) bool
}

// forms are those of all sorts behind the first line, in order. Of instructions there is one for each Op; they are the last ones.
var forms = makeForms()

const instForms = 6 // what stands ahead of the instructions' forms

func makeForms() []form {
	list := []form{
		{whole(`param ([A-Za-z0-9_./-]{1,64}) (real|complex) ` + digits), func(c *api.Code, w []string) bool {
			c.Sign = append(c.Sign, api.Param{Name: w[0], Kind: map[string]int{"real": 1, "complex": 2}[w[1]], Len: value(w[2])})
			return 1 <= value(w[2]) && value(w[2]) <= 4096
		}},
		{whole(`reg ` + digits + ` (number|whole)`), func(c *api.Code, w []string) bool {
			c.Regs = append(c.Regs, api.Type{Kind: map[string]int{"number": 1, "whole": 2}[w[1]]})
			return value(w[0]) == len(c.Regs)-1
		}},
		{whole(`reg ` + digits + ` vector ` + digits), func(c *api.Code, w []string) bool {
			c.Regs = append(c.Regs, api.Type{Kind: 3, Param: value(w[1])})
			return value(w[0]) == len(c.Regs)-1
		}},
		{whole(`slot ` + digits + ` (keep|local) number ` + eight), func(c *api.Code, w []string) bool {
			c.Slots = append(c.Slots, api.Slot{Type: api.Type{Kind: 1}, Keep: w[1] == "keep", Bits: patternOf(w[2])})
			return value(w[0]) == len(c.Slots)-1
		}},
		{whole(`slot ` + digits + ` (keep|local) whole ` + digits), func(c *api.Code, w []string) bool {
			c.Slots = append(c.Slots, api.Slot{Type: api.Type{Kind: 2}, Keep: w[1] == "keep", Int: value(w[2])})
			return value(w[0]) == len(c.Slots)-1
		}},
		{whole(`slot ` + digits + ` (keep|local) vector ` + digits + ` ` + eight), func(c *api.Code, w []string) bool {
			c.Slots = append(c.Slots, api.Slot{Type: api.Type{Kind: 3, Param: value(w[2])}, Keep: w[1] == "keep", Bits: patternOf(w[3])})
			return value(w[0]) == len(c.Slots)-1
		}},
	}
	for n, word := range opNames {
		list = append(list, instForm(n+1, word))
	}
	return list
}

func instForm(op int, word string) form {
	fields := strings.Trim(samples.Fields()[op-1], "-")
	for _, letter := range fields {
		word += map[rune]string{'N': " " + digits, '=': " " + eight, 'D': " r" + digits, 'A': " r" + digits, 'B': " r" + digits, 'C': " r" + digits}[letter]
	}
	return form{whole(word), func(c *api.Code, w []string) bool {
		i := api.Inst{Op: op}
		for k := range len(fields) {
			if field := samples.Field(&i, fields[k]); field != nil {
				*field = value(w[k])
			} else {
				i.Bits = patternOf(w[k])
			}
		}
		c.List = append(c.List, i)
		return true
	}}
}

func whole(line string) *regexp.Regexp { return regexp.MustCompile(`\A` + line + `\n\z`) }

func value(text string) int {
	n, err := strconv.Atoi(text)
	if err != nil {
		panic(err)
	}
	return n
}

func patternOf(text string) api.F {
	n, err := strconv.ParseUint(text, 16, 32)
	if err != nil {
		panic(err)
	}
	return api.F(n)
}

// sortOfForm is how far a form has come in the order.
func sortOfForm(k int) int {
	return []int{0, 1, 1, 2, 2, 2, 3}[min(k, instForms)]
}

// isGreat tells whether one of the words of a line that has its form is a number above MaxCount: hexadecimal has no ten digits.
func isGreat(words []string) bool {
	return slices.ContainsFunc(words, func(word string) bool { return len(word) == 10 && value(word) > maxCount })
}

// wantParse is what Parse tells by the chapter's words.
func wantParse(text string) (api.Code, api.Errno, int) {
	if len(text) > 4194304 {
		return api.Code{}, errLong, 0
	}
	pieces := strings.SplitAfter(text, "\n")
	if len(pieces) > 1 && pieces[len(pieces)-1] == "" {
		pieces = pieces[:len(pieces)-1]
	}
	c, sort := api.Code{}, 0
	for n, piece := range pieces {
		if n == 0 {
			if piece != "lathe 1\n" {
				return api.Code{}, errLine, 1
			}
			continue
		}
		fits := false
		for k, f := range forms {
			if !strings.HasPrefix(piece, f.line.String()[2:4]) {
				continue // it can't be one of these
			}
			if m := f.line.FindStringSubmatch(piece); m != nil {
				fits = sortOfForm(k) >= sort && (k == 0 || !isGreat(m[1:])) && f.put(&c, m[1:])
				sort = sortOfForm(k)
			}
		}
		if !fits {
			return api.Code{}, errLine, n + 1
		}
	}
	e, place := ir.Check(c)
	switch {
	case e == api.OK:
		return c, api.OK, 0
	case place == -1 || place == len(c.List):
		return api.Code{}, errCode, 0
	}
	return api.Code{}, errCode, 1 + len(c.Sign) + len(c.Regs) + len(c.Slots) + place + 1
}

// hold: AS2 and AS3, Parse tells of a text what the chapter's words say, and Text of what is taken is the text.
func hold(t *testing.T, text string) api.Errno {
	t.Helper()
	c, e, line := Parse(text)
	want, wantE, wantLine := wantParse(text)
	if e != wantE || line != wantLine || !ir.Equal(c, want) || e != api.OK && !isNone(c) {
		t.Errorf("Parse(%s) = %s, %d, %d, want %s, %d, %d", short(text), samples.Show(c), e, line, samples.Show(want), wantE, wantLine)
	}
	if e == api.OK {
		if same, e := Text(c); same != text || e != api.OK {
			t.Errorf("Text of Parse(%s) = %s, %d", short(text), short(same), e)
		}
	}
	return e
}

// TestOracle: the tests' own words tell the chapter's examples.
func TestOracle(t *testing.T) {
	const example = "lathe 1\nparam w real 2\nreg 0 vector 0\ngrad r0 0\nout r0 0\n"
	c, e, line := wantParse(example)
	if e != api.OK || line != 0 || wantText(c) != example {
		t.Errorf("%s, %d, %d", short(wantText(c)), e, line)
	}
	if _, e, line := wantParse("lathe 1\nparam w real 2\nreg 0 vector 0\ngrad r00 0\n"); e != errLine || line != 4 {
		t.Errorf("%d, %d", e, line)
	}
}
