package lex

import (
	"slices"
	"strings"
	"testing"

	"lathe/api"
)

// The limits, as the document has them.
const (
	maxSource = 65536
	maxName   = 64
)

func is(kind int, text string, at int) api.Token {
	return api.Token{Kind: kind, Text: text, At: at}
}

func name(text string, at int) api.Token   { return is(1, text, at) }
func number(text string, at int) api.Token { return is(2, text, at) }
func whole(text string, at int) api.Token  { return is(3, text, at) }
func quoted(text string, at int) api.Token { return is(4, text, at) }
func end(at int) api.Token                 { return is(0, "", at) }

// mark is a token of one byte.
func mark(c byte, at int) api.Token {
	kinds := map[byte]int{'(': 5, ')': 6, ',': 7, '=': 8, '-': 9, ';': 10}
	return is(kinds[c], string(rune(c)), at)
}

func isMark(c byte) bool { return strings.IndexByte("(),=-;", c) >= 0 }

// brief is enough of a text to know it by.
func brief(text string) string {
	return text[:min(len(text), 80)]
}

// some are enough tokens to know a list by.
func some(list []api.Token) []api.Token {
	return list[:min(len(list), 20)]
}

// holdTokens: Scan takes the text, and tells these.
func holdTokens(t *testing.T, text string, want ...api.Token) {
	t.Helper()
	list, e, at := Scan(text)
	if e != 0 || at != 0 || !slices.Equal(list, want) {
		t.Errorf("Scan(%q) = %v, %d, %d, want %v", brief(text), some(list), e, at, some(want))
	}
}

// holdRefused: Scan refuses the text by that error, at that place.
func holdRefused(t *testing.T, text string, want api.Errno, at int) {
	t.Helper()
	list, e, place := Scan(text)
	if e != want || place != at || len(list) != 0 {
		t.Errorf("Scan(%q) = %v, %d, %d, want %d at %d", brief(text), some(list), e, place, want, at)
	}
}

// TestExamples: LX1, the chapter's.
func TestExamples(t *testing.T) {
	holdTokens(t, "scale( 0.5 )  # half", name("scale", 0), mark('(', 5), number("0.5", 7), mark(')', 11), end(20))
	holdTokens(t, `a=-12,"w*"`, name("a", 0), mark('=', 1), mark('-', 2), whole("12", 3), mark(',', 5), quoted("w*", 6), end(10))
	holdTokens(t, "", end(0))
	for _, text := range []string{"1.", "1e+", "12x", "1.5.2"} {
		holdRefused(t, text, api.ErrNumber, 0)
	}
	holdRefused(t, `"ab`, api.ErrText, 0)
	holdRefused(t, "a $", api.ErrByte, 2)
	holdRefused(t, ".5", api.ErrByte, 0)
}

// TestProgram: LX1, all kinds of tokens and places over several lines.
func TestProgram(t *testing.T) {
	holdTokens(t, "let lr = 1e-3; # the rate\n\tmasked( \"b *#\",\rtrace(0.5,9) )",
		name("let", 0), name("lr", 4), mark('=', 7), number("1e-3", 9), mark(';', 13),
		name("masked", 27), mark('(', 33), quoted("b *#", 35), mark(',', 41),
		name("trace", 43), mark('(', 48), number("0.5", 49), mark(',', 52), whole("9", 53), mark(')', 54), mark(')', 56), end(57))
}

// holdStart: what Scan tells of a text that ends with the byte c, ahead of which these tokens stand for themselves.
func holdStart(t *testing.T, ahead string, c byte, list ...api.Token) {
	t.Helper()
	text, at := ahead+string([]byte{c}), len(ahead)
	switch {
	case c == 9 || c == 10 || c == 13 || c == 32 || c == '#':
		holdTokens(t, text, append(list, end(at+1))...)
	case c >= 'a' && c <= 'z' || c == '_':
		holdTokens(t, text, append(list, name(text[at:], at), end(at+1))...)
	case c >= '0' && c <= '9':
		holdTokens(t, text, append(list, whole(text[at:], at), end(at+1))...)
	case isMark(c):
		holdTokens(t, text, append(list, mark(c, at), end(at+1))...)
	case c == '"':
		holdRefused(t, text, api.ErrText, at)
	default:
		holdRefused(t, text, api.ErrByte, at)
	}
}

// TestEveryByte: LX1, alone, behind blanks, behind a comment that has ended, and behind tokens that no byte makes longer.
func TestEveryByte(t *testing.T) {
	for c := range 256 {
		for _, ahead := range []string{"", " ", "\t\n\r ", "#\n", "#a \"$\xff\n", " # #\n\n"} {
			holdStart(t, ahead, byte(c))
		}
		holdStart(t, "\"w\"", byte(c), quoted("w", 0))
		holdStart(t, "\"\"", byte(c), quoted("", 0))
		holdStart(t, "a ", byte(c), name("a", 0))
		holdStart(t, "1 ", byte(c), whole("1", 0))
		holdStart(t, "1.5e3\t", byte(c), number("1.5e3", 0))
		for _, m := range []byte("(),=-;") {
			holdStart(t, string(m), byte(c), mark(m, 0))
		}
	}
}

// TestEveryByteBehindName: LX1.
func TestEveryByteBehindName(t *testing.T) {
	for c := range 256 {
		text := "a" + string([]byte{byte(c)})
		if c >= 'a' && c <= 'z' || c == '_' || c >= '0' && c <= '9' {
			holdTokens(t, text, name(text, 0), end(2))
		} else {
			holdStart(t, "a", byte(c), name("a", 0))
		}
	}
}

// TestEveryByteBehindNumber: LX1, behind digits that may end a number. E is no letter: behind an exponent's digits it is a byte that begins no token, as A is.
func TestEveryByteBehindNumber(t *testing.T) {
	for _, n := range []struct {
		text     string
		kind     int
		exponent bool
	}{{"0", 3, false}, {"12", 3, false}, {"1.5", 2, false}, {"00.50", 2, false}, {"1e3", 2, true}, {"1E+3", 2, true}, {"1.5e-03", 2, true}} {
		for c := range 256 {
			text := n.text + string([]byte{byte(c)})
			switch {
			case c >= '0' && c <= '9':
				holdTokens(t, text, is(n.kind, text, 0), end(len(text)))
			case c >= 'a' && c <= 'z' || c == '_' || c == '.' || c == 'E' && !n.exponent:
				holdRefused(t, text, api.ErrNumber, 0)
			default:
				holdStart(t, n.text, byte(c), is(n.kind, n.text, 0))
			}
		}
	}
}

// TestEveryByteWhereDigitsMust: LX1, a byte where digits must stand: but for a digit, and for a sign in front of one, none can.
func TestEveryByteWhereDigitsMust(t *testing.T) {
	for _, ahead := range []string{"1.", "1e", "1E", "1e+", "1e-", "1E+", "1E-", "1.5e", "1.5E", "1.5e+", "1.5E-"} {
		holdRefused(t, ahead, api.ErrNumber, 0)
		for c := range 256 {
			text := ahead + string([]byte{byte(c)})
			if c >= '0' && c <= '9' {
				holdTokens(t, text, number(text, 0), end(len(text)))
				continue
			}
			holdRefused(t, text, api.ErrNumber, 0)
			last := ahead[len(ahead)-1]
			if sign := c == '+' || c == '-'; !sign || last != 'e' && last != 'E' {
				holdRefused(t, text+"7", api.ErrNumber, 0)
			}
		}
	}
}

// TestEveryByteInText: LX1, alone, first, amid others and last.
func TestEveryByteInText(t *testing.T) {
	for c := range 256 {
		b := string([]byte{byte(c)})
		for _, in := range []string{b, b + "w", "w" + b + "w", "w" + b} {
			text := "a \"" + in + "\""
			switch {
			case c == '"':
				if in == b {
					holdRefused(t, text, api.ErrText, 4) // the third one begins another text
				}
			case c < 32 || c > 126:
				holdRefused(t, text, api.ErrText, 2)
			default:
				holdTokens(t, text, name("a", 0), quoted(in, 2), end(len(text)))
			}
		}
	}
}

// TestEveryByteInComment: LX1, only a byte 10 ends one.
func TestEveryByteInComment(t *testing.T) {
	for c := range 256 {
		b := string([]byte{byte(c)})
		holdTokens(t, "#"+b, end(2))
		holdTokens(t, "(# "+b+" #", mark('(', 0), end(6))
		if text := "#" + b + "x"; c == 10 {
			holdTokens(t, text, name("x", 2), end(3))
		} else {
			holdTokens(t, text, end(3))
			holdTokens(t, text+"\n7", whole("7", 4), end(5))
		}
	}
}

// TestNothing: LX1, blanks and comments alone.
func TestNothing(t *testing.T) {
	for _, text := range []string{
		"", " ", "\t", "\n", "\r", " \t\r\n \n\n\t", "#", "##", "# half", "#\n", "# half\n", "\n#", " # a\n\t# b", "#\"", "#1.\n", "#\r", "# \x00\xff\x7f",
		strings.Repeat(" ", maxSource), strings.Repeat("#", maxSource), strings.Repeat("#\n", maxSource/2),
	} {
		holdTokens(t, text, end(len(text)))
	}
}

// TestComments: LX1, at the end, between tokens, and behind one without a blank.
func TestComments(t *testing.T) {
	holdTokens(t, "a#b", name("a", 0), end(3))
	holdTokens(t, "a#b\nc", name("a", 0), name("c", 4), end(5))
	holdTokens(t, "a #b\r\n c #", name("a", 0), name("c", 7), end(10))
	holdTokens(t, "12#.\n3", whole("12", 0), whole("3", 5), end(6))
	holdTokens(t, "1.5#e\n3", number("1.5", 0), whole("3", 6), end(7))
	holdTokens(t, "\"a\"#\"\n\"#\"", quoted("a", 0), quoted("#", 6), end(9))
	holdTokens(t, "(#)\n)", mark('(', 0), mark(')', 4), end(5))
	holdRefused(t, "# $\n $", api.ErrByte, 5)
	holdRefused(t, "1.# 5\n5", api.ErrNumber, 0)
}

// TestNames: LX1, which begin with a letter or _, no great letter, no digit.
func TestNames(t *testing.T) {
	for _, text := range []string{"a", "z", "_", "__", "_0", "a0", "z9_", "scale_by_adam", "e", "e5", "let", "abcdefghijklmnopqrstuvwxyz_0123456789"} {
		holdTokens(t, text, name(text, 0), end(len(text)))
		holdTokens(t, " "+text+"\n", name(text, 1), end(len(text)+2))
	}
	holdRefused(t, "A", api.ErrByte, 0)
	holdRefused(t, "aB", api.ErrByte, 1)
	holdRefused(t, "a.b", api.ErrByte, 1)
	holdRefused(t, "a\u00e9", api.ErrByte, 1)
	holdRefused(t, "0a", api.ErrNumber, 0)
	holdRefused(t, "0_", api.ErrNumber, 0)
	holdTokens(t, "a-b", name("a", 0), mark('-', 1), name("b", 2), end(3))
	holdTokens(t, "a\"b\"c", name("a", 0), quoted("b", 1), name("c", 4), end(5))
}

// TestNumbers: LX1, with and without a point and an exponent.
func TestNumbers(t *testing.T) {
	for _, text := range []string{"0", "7", "00", "007", "1234567890", "99999999999999999999"} {
		holdTokens(t, text, whole(text, 0), end(len(text)))
	}
	for _, ahead := range []string{"0", "12", "0.0", "1.25", "00.500"} {
		for _, e := range []string{"e", "E"} {
			for _, sign := range []string{"", "+", "-"} {
				for _, digits := range []string{"0", "5", "38", "007", "999999"} {
					text := ahead + e + sign + digits
					holdTokens(t, text, number(text, 0), end(len(text)))
					holdTokens(t, "\n"+text+")", number(text, 1), mark(')', len(text)+1), end(len(text)+2))
				}
				holdRefused(t, ahead+e+sign, api.ErrNumber, 0)
				holdRefused(t, " "+ahead+e+sign+" 5", api.ErrNumber, 1)
			}
		}
	}
	for _, text := range []string{"0.0", "0.5", "1.50", "123.456"} {
		holdTokens(t, text, number(text, 0), end(len(text)))
	}
}

// TestNotNumbers: LX1, digits that are missing, and a letter or a point behind.
func TestNotNumbers(t *testing.T) {
	for _, text := range []string{
		"1.", "1. 5", "1.e5", "1.E5", "1.+5", "1.-5", "1..5", "1.(", "1.x", "1.\"a\"",
		"1e", "1e 5", "1e.5", "1ee5", "1eE5", "1e++5", "1e+-5", "1e--5", "1e5.5", "1e5.", "1e5e5", "1e5x", "1e5_", "1E5e",
		"1x", "1_", "1_000", "0x10", "1f", "1.5.2", "1.5.", "1.5x", "1.5_", "1.5f", "1.5e5.", "1.5e5e", "1e_5", "1ex",
	} {
		holdRefused(t, text, api.ErrNumber, 0)
		holdRefused(t, "a, "+text, api.ErrNumber, 3)
	}
	holdRefused(t, ".5", api.ErrByte, 0)
	holdRefused(t, "+5", api.ErrByte, 0)
	holdRefused(t, "1+5", api.ErrByte, 1)
	holdRefused(t, "1X", api.ErrByte, 1)
	holdRefused(t, "1e5E5", api.ErrByte, 3)
	holdTokens(t, "-5", mark('-', 0), whole("5", 1), end(2))
	holdTokens(t, "1-5", whole("1", 0), mark('-', 1), whole("5", 2), end(3))
	holdTokens(t, "1.5-2e-3-4", number("1.5", 0), mark('-', 3), number("2e-3", 4), mark('-', 8), whole("4", 9), end(10))
	holdTokens(t, "1\"a\"2", whole("1", 0), quoted("a", 1), whole("2", 4), end(5))
}

// TestTexts: LX1.
func TestTexts(t *testing.T) {
	holdTokens(t, `""`, quoted("", 0), end(2))
	holdTokens(t, `"" ""`, quoted("", 0), quoted("", 3), end(5))
	holdTokens(t, `"a""b"`, quoted("a", 0), quoted("b", 3), end(6))
	holdTokens(t, `"# no comment"`, quoted("# no comment", 0), end(14))
	holdTokens(t, `"a\"`, quoted(`a\`, 0), end(4))
	holdTokens(t, `" ~ "`, quoted(" ~ ", 0), end(5))
	for _, text := range []string{
		`"`, `"a`, `"a b # c`, "\"a\nb\"", "\"\n", "\"\n\"", "\"a\tb\"", "\"a\rb\"", "\"\x00\"", "\"\x1f\"", "\"\x7f\"", "\"\x80\"", "\"\xff\"", "\"\u00e9\"", "\"a\x7f",
	} {
		holdRefused(t, text, api.ErrText, 0)
		holdRefused(t, "(\n"+text, api.ErrText, 2)
	}
	holdRefused(t, `"a""`, api.ErrText, 3)
	holdRefused(t, `a"`, api.ErrText, 1)
}
