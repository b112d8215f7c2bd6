package asm

import (
	"slices"
	"strings"
	"testing"

	"lathe/api"
)

// everyLine are the lines of the usual code with an instruction of each Op.
func everyLine() []string {
	pieces := strings.SplitAfter(usualLines+everyLines, "\n")
	return pieces[:len(pieces)-1]
}

// with is the lines as a text, with another one in place of one of them.
func with(list []string, n int, by string) string {
	return strings.Join(list[:n], "") + by + strings.Join(list[n+1:], "")
}

// TestEnds: AS2, a text that ends without a byte 10 is at fault at that last piece, also if the piece would be a line; the empty text at
// line 1.
func TestEnds(t *testing.T) {
	holdRefused(t, "", errLine, 1)
	holdRefused(t, "\n", errLine, 1)
	holdRefused(t, "lathe 1", errLine, 1)
	holdRefused(t, "lathe 1\nreg 0 number", errLine, 2)
	holdRefused(t, "lathe 1\n ", errLine, 2)
	holdRefused(t, "lathe 1\n\x00", errLine, 2)
	holdRefused(t, "lathe 1\n\n", errLine, 2)
	holdRefused(t, "lathe 1\nreg 0 number\n\n", errLine, 3)
	holdRefused(t, "lathe 1\r", errLine, 1)
	text, line := usualLines+everyLines, 0
	for size := range len(text) {
		if size == 0 || text[size-1] == '\n' {
			line++
		}
		if size == 0 || text[size-1] != '\n' {
			holdRefused(t, text[:size], errLine, line)
		} else {
			hold(t, text[:size])
		}
	}
}

// TestFirstLine: AS2, another first line, or none.
func TestFirstLine(t *testing.T) {
	for _, line := range []string{
		"", " ", "lathe", "lathe ", "lathe 0", "lathe 2", "lathe 01", "lathe 1 ", " lathe 1", "lathe  1", "lathe 11", "lathe 1 1", "lathe1", "Lathe 1", "LATHE 1", "lathe\t1", "lathe 1\t", "lathe 1\r", "\ufefflathe 1", "lathe +1",
		"lathe 1.0", "lathe -1", "lath 1", "lathes 1", "1 lathe", "param w real 2", "reg 0 number", "slot 0 keep number 00000000", "end", "loop 0", "# lathe 1", "lathe 1 # code", "lth1", "lathe one", "lathe 1\x00", "lathe 2147483648",
	} {
		holdRefused(t, line+"\n", errLine, 1)
		holdRefused(t, line, errLine, 1)
		holdRefused(t, line+"\nlathe 1\n", errLine, 1)
		holdRefused(t, line+strings.TrimPrefix(usualLines, "lathe 1"), errLine, 1)
	}
	for n := range everyLine() { // it does not stand twice
		list := everyLine()
		holdRefused(t, strings.Join(slices.Insert(list, n+1, "lathe 1\n"), ""), errLine, n+2)
	}
}

// TestBlanks: AS2, in each line: two blanks, a blank at either end, other bytes in place of a blank or beside it, none, a byte 13.
func TestBlanks(t *testing.T) {
	list := everyLine()
	for n, line := range list {
		bare := strings.TrimSuffix(line, "\n")
		for _, odd := range []string{
			" " + bare, bare + " ", "  " + bare, bare + "  ", "\t" + bare, bare + "\t", bare + "\r", "\r" + bare, bare + "\x00", bare + "\v", bare + "\f", "\u00a0" + bare, bare + ";", bare + ",", bare + " #", bare + "# x", "#" + bare, "", " ", "\r", "\t", "  ", "\x00", "\xff",
		} {
			holdRefused(t, with(list, n, odd+"\n"), errLine, n+1)
		}
		for at := range len(bare) {
			if bare[at] != ' ' {
				continue
			}
			for _, odd := range []string{"", "  ", "\t", " \t", "\t ", "   ", "\r", "\v", "\f", "\u00a0", "\x00", ",", ", ", " ,", "_", "=", "\u2003"} {
				holdRefused(t, with(list, n, bare[:at]+odd+bare[at+1:]+"\n"), errLine, n+1)
			}
			holdRefused(t, with(list, n, bare[:at]+"\n"+bare[at+1:]+"\n"), errLine, n+1) // what stands ahead of it is no line: no word is enough but end and next
		}
	}
	holdRefused(t, strings.ReplaceAll(usualLines, "\n", "\r\n"), errLine, 1)
	holdRefused(t, strings.ReplaceAll(usualLines, "\n", "\r"), errLine, 1)
	holdRefused(t, strings.ReplaceAll(usualLines, "\n", "\n\n"), errLine, 2)
	holdRefused(t, strings.ReplaceAll(usualLines, "\n", " "), errLine, 1)
}

// isWord tells whether a text's word is one of the document's words, and no name or number.
func isWord(line []string, k int) bool {
	switch line[0] {
	case "lathe":
		return k == 0
	case "param":
		return k == 0 || k == 2 && len(line) == 4
	case "reg":
		return k == 0 || k == 2
	case "slot":
		return k == 0 || k == 2 || k == 3
	}
	return k == 0
}

// TestWords: AS2, each word of each line in another case, with a letter too few or too many, or another one.
func TestWords(t *testing.T) {
	list := everyLine()
	for n, line := range list {
		words := wordsOf(line)
		for k, word := range words {
			if !isWord(words, k) {
				continue
			}
			for _, odd := range []string{
				strings.ToUpper(word), strings.ToUpper(word[:1]) + word[1:], word[:len(word)-1] + strings.ToUpper(word[len(word)-1:]), word[1:], word[:len(word)-1], word + "s", "x" + word, word + word, word + ":", "." + word, "", "x", "0", "fly", "'" + word + "'", "op" + word, word + "\x00",
				"nop", "less2", "numbers", "int", "float", "kept", "locals", "register", "vectors", "lathe", "Add", "jump", "OpAdd",
			} {
				other := slices.Clone(words)
				other[k] = odd
				if odd != word {
					holdRefused(t, with(list, n, strings.Join(other, " ")+"\n"), errLine, n+1)
				}
			}
			other := slices.Delete(slices.Clone(words), k, k+1)
			holdRefused(t, with(list, n, strings.Join(other, " ")+"\n"), errLine, n+1)
			other = slices.Insert(slices.Clone(words), k, word)
			holdRefused(t, with(list, n, strings.Join(other, " ")+"\n"), errLine, n+1)
		}
	}
}

// TestOtherWords: AS2, in place of each word each word that there is: it is right just where it may stand.
func TestOtherWords(t *testing.T) {
	list := everyLine()
	all := append(strings.Fields("lathe param reg slot real complex keep local number whole vector r0 r4 r8 r18 0 1 2 3 7fc00000 00000000 w z q"), opNames...)
	seen := map[api.Errno]int{}
	for n, line := range list {
		words := wordsOf(line)
		for k := range words {
			for _, word := range all {
				other := slices.Clone(words)
				other[k] = word
				seen[hold(t, with(list, n, strings.Join(other, " ")+"\n"))]++
			}
		}
	}
	if seen[api.OK] < 100 || seen[errCode] < 100 || seen[errLine] < 1000 || len(seen) != 3 {
		t.Errorf("%v", seen)
	}
}

// TestWordCount: AS2, a word too few at the end and in the middle, a word too many, in each line.
func TestWordCount(t *testing.T) {
	list := everyLine()
	for n, line := range list {
		words := wordsOf(line)
		for k := range words {
			holdRefused(t, with(list, n, strings.Join(slices.Delete(slices.Clone(words), k, k+1), " ")+"\n"), errLine, n+1)
		}
		for k := range len(words) + 1 {
			for _, more := range []string{"0", "r0", "x", "number", "00000000", "keep"} {
				holdRefused(t, with(list, n, strings.Join(slices.Insert(slices.Clone(words), k, more), " ")+"\n"), errLine, n+1)
			}
		}
	}
	holdRefused(t, "lathe 1\nend"+strings.Repeat(" 0", 100000)+"\n", errLine, 2)
	holdRefused(t, "lathe 1\nreg 0 number"+strings.Repeat(" ", 100000)+"\n", errLine, 2)
	holdRefused(t, "lathe 1\n"+strings.Repeat(" ", 100000)+"reg 0 number\n", errLine, 2)
	holdRefused(t, "lathe 1"+strings.Repeat(" 1", 100000)+"\n", errLine, 1)
}

// TestOrder: AS2, lines of one sort that stand ahead of those that come first.
func TestOrder(t *testing.T) {
	sorts := []string{"param w real 1", "reg 0 number", "slot 0 keep number 00000000", "number r0 00000000"}
	for a, first := range sorts {
		for b, second := range sorts {
			want := errLine
			switch {
			case a < b && !(a != 1 && b == 3):
				want = api.OK
			case a < b || a == b && a == 0 || a == b && a == 3: // no register is there, or the name stands twice
				want = errCode
			}
			_, e, line := Parse(lines("lathe 1; " + first + "; " + second))
			if wantLine := map[api.Errno]int{errLine: 3}[want]; e != want || want != errCode && line != wantLine {
				t.Errorf("%s, %s: %d at %d, want %d", first, second, e, line, want)
			}
			if a > b {
				holdRefused(t, lines("lathe 1; "+first+"; "+second), errLine, 3)
			}
		}
	}
	holdRefused(t, lines("lathe 1; reg 0 number; param w real 1"), errLine, 3)
	holdRefused(t, lines("lathe 1; slot 0 keep whole 0; reg 0 number"), errLine, 3)
	holdRefused(t, lines("lathe 1; reg 0 number; slot 0 keep whole 0; reg 1 number"), errLine, 4)
	holdRefused(t, lines("lathe 1; reg 0 number; number r0 00000000; slot 0 keep whole 0"), errLine, 4)
	holdRefused(t, lines("lathe 1; reg 0 number; number r0 00000000; reg 1 number"), errLine, 4)
	holdRefused(t, lines("lathe 1; loop 0; reg 0 number"), errLine, 3)
	holdRefused(t, lines("lathe 1; reg 0 number; number r0 00000000; lathe 1"), errLine, 4)
}

// TestLines: AS2, each line left out, done twice, and put in another place.
func TestLines(t *testing.T) {
	list := everyLine()
	for n, line := range list {
		hold(t, with(list, n, ""))
		hold(t, with(list, n, line+line))
		for k := range list {
			other := slices.Delete(slices.Clone(list), n, n+1)
			hold(t, strings.Join(slices.Insert(other, min(k, len(other)), line), ""))
		}
	}
	for n := range list[:21] { // the registers' numbers would go on otherwise
		if n >= 4 {
			holdRefused(t, with(list, n, ""), errLine, n+1)
			holdRefused(t, with(list, n, list[n]+list[n]), errLine, n+2)
		}
	}
}

// TestNames: AS2, names that sign.Check would refuse; one that stands twice is no line's fault.
func TestNames(t *testing.T) {
	for _, name := range []string{
		"", "a b", "\u00e9", "a*", "a\tb", "w,", "w:", "w;", "(w)", "w\\", "\"w\"", "w\x00", "\x00", "\xff", "w\r", "w+", "w=", "#", "a#", "~", "@w", "w?", "w\x7f", "[w]", "{w}", "w!", "w$", "%", "^", "&", "|", "<", ">", "`", "'",
		strings.Repeat("n", maxName+1), strings.Repeat("n", maxName) + "\u00e9", strings.Repeat("n", 100000),
	} {
		for _, kind := range []string{"real", "complex"} {
			holdRefused(t, "lathe 1\nparam "+name+" "+kind+" 2\n", errLine, 2)
			holdRefused(t, "lathe 1\nparam w real 1\nparam "+name+" "+kind+" 2\nreg 0 number\n", errLine, 3)
		}
	}
	holdRefused(t, lines("lathe 1; param w real 1; param w real 1"), errCode, 0)
	holdRefused(t, lines("lathe 1; param w real 1; param v real 1; param w complex 2; reg 0 number"), errCode, 0)
	holdRefused(t, lines("lathe 1; param w real 1; param w real 1; reg 0 numbers"), errLine, 4)
	holdRefused(t, lines("lathe 1; param w real 1; param w real 0"), errLine, 3)
}

// TestFirstFault: AS2, of several faults the first one; a line's ahead of the code's, and the text's length ahead of all.
func TestFirstFault(t *testing.T) {
	list := everyLine()
	wrong := []string{"\n", "fly\n", "reg 99 number\n", " end\n", "end \n", "lathe 1\n", "param w real 0\n", "number r0 0\n", "r0\n"}
	for a := range list {
		for b := a + 1; b < len(list); b += 1 + a%7 {
			both := slices.Clone(list)
			both[a], both[b] = wrong[a%len(wrong)], wrong[b%len(wrong)]
			if both[a] == "lathe 1\n" && a == 0 {
				continue
			}
			holdRefused(t, strings.Join(both, ""), errLine, a+1)
		}
	}
	holdRefused(t, lines("lathe 1; end; end; next; fly"), errLine, 5)
	holdRefused(t, lines("lathe 1; end; end; next"), errCode, 2)
	holdRefused(t, lines("lathe 1; reg 0 vector 9; number r0 7fffffff; reg 1 number"), errLine, 4)
	holdRefused(t, lines("lathe 1; end; next")+"end", errLine, 4)
}
