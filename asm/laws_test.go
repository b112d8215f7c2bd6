package asm

import (
	"strings"
	"testing"

	"lathe/alloc"
	"lathe/api"
	"lathe/check"
	"lathe/fold"
	"lathe/fuse"
	"lathe/ir"
	"lathe/lower"
	"lathe/prune"
	"lathe/reuse"
	"lathe/samples"
)

// TestCodesFromAllOver: AS1 to AS3, Parse of what Text tells is the code, of codes from all over.
func TestCodesFromAllOver(t *testing.T) {
	g, texts, ops := &samples.Grower{Source: 20}, map[string]api.Code{}, map[int]bool{}
	for n := range 4000 {
		for _, c := range []api.Code{g.Code(60), g.SingleCode(n % 300)} {
			text := wantText(c)
			holdTaken(t, text, c)
			if other, isThere := texts[text]; isThere && !ir.Equal(c, other) {
				t.Errorf("%s and %s have the same text", samples.Show(c), samples.Show(other))
			}
			texts[text] = c
			for op := range samples.Counts(c) {
				ops[op] = true
			}
		}
	}
	if len(texts) < 5000 || len(ops) != 37 {
		t.Errorf("only %d codes, with %d kinds of instructions", len(texts), len(ops))
	}
}

// TestPrograms: AS1 to AS3, the codes of typed programs, as they are lowered, and behind each choice of the passes.
func TestPrograms(t *testing.T) {
	g := &samples.Grower{Source: 21}
	for i := range 1000 {
		list := g.Params(3)
		may := func(x api.Tx) bool { return check.Valid(x, list) == api.OK }
		c, e := lower.Lower(g.Program(1+i%4, len(list), may), list)
		for bit, pass := range []func(c api.Code) (api.Code, api.Errno){fold.Fold, reuse.Reuse, prune.Prune, fuse.Fuse, alloc.Alloc} {
			if e == api.OK && i>>bit&1 == 1 {
				c, e = pass(c)
			}
		}
		if e != api.OK {
			t.Fatalf("no code: %d", e)
		}
		holdTaken(t, wantText(c), c)
	}
}

// explore holds a text, and those with one more of the pieces behind it, as long as no line is at fault but the last one; it counts
// what they are answered.
func explore(t *testing.T, text string, pieces []string, left int, seen map[api.Errno]int) {
	t.Helper()
	seen[hold(t, text)]++
	_, e, line := Parse(text)
	if left == 0 || t.Failed() || e == errLine && line <= strings.Count(text, "\n") {
		return
	}
	for _, piece := range pieces {
		explore(t, text+piece, pieces, left-1, seen)
	}
}

// TestAllShort: AS2 and AS3, all texts by hand of few pieces, behind beginnings: lines, parts of lines, bytes.
func TestAllShort(t *testing.T) {
	seen := map[api.Errno]int{}
	for _, x := range []struct {
		ahead, pieces string
		left          int
	}{
		{"", "lathe 1|\n| |l", 6},
		{"lathe 1\n", "param w real 1\n|param z complex 2\n|reg 0 number\n|reg 0 vector 0\n|reg 1 whole\n|slot 0 keep number 00000000\n|slot 1 local whole 7\n|number r0 3f800000\n|grad r0 0\n|when r1\n|end\n|loop 0\n|next\n", 4},
		{"lathe 1\nparam w real 1\nparam z complex 2\nreg 0 vector 0\nreg 1 vector 1\n", "grad r0 0\n|grad r1 1\n|param r1 0\n|param r0 1\n|out r0 0\n|out r1 1\n|loop 0\n|loop 1\n|neg r0 r0\n|mul r1 r1 r1\n|next\n", 4},
		{"lathe 1\nreg 0 whole\nwhole r0 ", "0|1|2|9|214748364|7|8| |r|-|\n", 4},
		{"lathe 1\nreg 0 number\nnumber r0 ", "0|3f8|7fc0|0000|f|F|g| |\n", 4},
		{"lathe 1\nreg 0 whole\nwhole r0 0\nwhen r0\n", "when r0\n|end\n|inc r0 r0\n|end|\n| |next\n", 4},
		{"lathe 1\nparam a real ", "0|4|09|6|7|\n| ", 5},
		{"lathe 1\nreg 0 whole\n", "reg |0|1|2| whole| number|\n|10", 5},
	} {
		explore(t, x.ahead, strings.Split(x.pieces, "|"), x.left, seen)
	}
	if seen[api.OK] < 1000 || seen[errCode] < 1000 || seen[errLine] < 10000 || len(seen) != 3 {
		t.Errorf("%v", seen)
	}
}

// exploreLine holds a text whose last line ends here, and those in which one more of the words stands in it; it counts what they are
// answered.
func exploreLine(t *testing.T, text string, words []string, left int, seen map[api.Errno]int) {
	t.Helper()
	for _, word := range words {
		seen[hold(t, text+word+"\n")]++
		if left > 1 && !t.Failed() {
			exploreLine(t, text+word+" ", words, left-1, seen)
		}
	}
}

// TestAllLines: AS2 and AS3, all lines of few words, behind beginnings.
func TestAllLines(t *testing.T) {
	seen := map[api.Errno]int{}
	for _, x := range []struct {
		ahead, words string
		left         int
	}{
		{"", "lathe|1|0|", 4},
		{"lathe 1\n", "param|w|r0|real|complex|1|0|", 5},
		{"lathe 1\nparam w real 2\n", "reg|0|1|number|whole|vector|", 5},
		{"lathe 1\nparam w real 2\nslot 0 ", "keep|local|number|whole|vector|0|00000000|", 4},
		{"lathe 1\nparam w real 2\nslot 0 keep whole 0\nslot ", "1|keep|vector|0|7fc00000", 6},
		{"lathe 1\nreg 0 number\nreg 1 whole\nnumber r0 00000000\nwhole r1 0\n", "neg|r0|r1|r2|r|0|add|select|power|", 5},
		{"lathe 1\nparam z complex 1\nreg 0 vector 0\nslot 0 local vector 0 00000000\ngrad r0 0\n", "grad|param|out|load|store|loop|when|end|sum|r0|0|1|2", 4},
	} {
		exploreLine(t, x.ahead, strings.Split(x.words, "|"), x.left, seen)
	}
	if seen[api.OK] < 30 || seen[errCode] < 30 || seen[errLine] < 10000 || len(seen) != 3 {
		t.Errorf("%v", seen)
	}
}

// mixed is a text made of pieces of others, with some changed, left out, put in and done twice: bytes, words or whole lines.
func mixed(g *samples.Grower, text, other string) string {
	for range 1 + g.Below(2) {
		end := []string{"", " ", "\n"}[g.Below(3)]
		list, others := strings.SplitAfter(text, end), strings.SplitAfter(other, end)
		at, from := g.Below(len(list)), g.Below(len(others))
		ahead, behind := strings.Join(list[:at], ""), strings.Join(list[at:], "")
		if at < len(list) {
			behind = strings.Join(list[at+1:], "")
		}
		switch g.Below(6) {
		case 0:
			text = ahead + behind
		case 1:
			text = ahead + strings.Join(list[at:], "") + behind
		case 2:
			text = ahead + strings.Join(others[from:min(len(others), from+1+g.Below(2))], "") + strings.Join(list[at:], "")
		case 3:
			text = ahead + strings.Join(others[from:min(len(others), from+1)], "") + behind
		case 4:
			text = ahead + string([]byte{" \n\t\r0129rx-+"[g.Below(12)]}) + behind
		default:
			text = ahead + string([]byte{byte(g.Next() >> 9)}) + behind
		}
	}
	return text
}

// TestMixed: AS2 and AS3, texts that were those of code once.
func TestMixed(t *testing.T) {
	g, seen := &samples.Grower{Source: 23}, map[api.Errno]int{}
	for range 30000 {
		seen[hold(t, mixed(g, wantText(g.Code(20)), wantText(g.Code(20))))]++
	}
	if seen[api.OK] < 500 || seen[errCode] < 500 || seen[errLine] < 10000 || len(seen) != 3 {
		t.Errorf("%v", seen)
	}
}

// TestAnyBytes: AS2, any bytes whatever: of all, of those of texts, of words.
func TestAnyBytes(t *testing.T) {
	g := &samples.Grower{Source: 24}
	words := append(strings.Fields("lathe param reg slot real complex keep local number whole vector r0 r1 r4 0 1 2 3 10 7fc00000 00000000 w z"), opNames...)
	for n := range 60000 {
		var b strings.Builder
		if n%4 > 0 {
			b.WriteString("lathe 1\n")
		}
		sort := g.Below(3)
		for range g.Below(40) {
			switch sort {
			case 0:
				b.WriteByte(byte(g.Next() >> 9))
			case 1:
				b.WriteByte("lathe 1\nrgsotpamw0123"[g.Below(21)])
			default:
				b.WriteString(words[g.Below(len(words))])
				b.WriteByte(" \n"[g.Below(2)])
			}
		}
		hold(t, b.String())
		hold(t, b.String()+"\n")
	}
}
