package sign

import (
	"slices"
	"strconv"
	"strings"
	"testing"

	"lathe/api"
)

// TestLinesThatSayNothing: SG2, empty lines and lines that begin with `#`, at the beginning, between and at the end.
func TestLinesThatSayNothing(t *testing.T) {
	for _, text := range []string{"", "\n", "\n\n\n", "#", "##", "#\n", "# w real 3", "#w real 3\n#v real 3\n", "\n#\n\n# \x00\xff\r\t é\n\n"} {
		holdParse(t, text)
	}
	idle := []string{"", "\n", "\n\n", "#\n", "# a word\n", "#w real 9\n", "\n#\r\n\n", "#\x00\xff\"é \t\n"}
	for _, ahead := range idle {
		for _, between := range idle {
			for _, behind := range append(idle, "#", "# the end", "\n#") {
				holdParse(t, ahead+"w real 3\n"+between+"b/c complex 2\n"+behind, example()...)
			}
			holdParse(t, ahead+"w real 3\n"+between+"b/c complex 2", example()...)
		}
	}
}

// TestLineEnds: SG2, only a byte 10 ends a line, and the text the last one.
func TestLineEnds(t *testing.T) {
	w := is("w", kindReal, 3)
	holdParse(t, "w real 3", w)
	holdParse(t, "w real 3\n", w)
	holdParse(t, "w real 3\n\n", w)
	for _, end := range []string{"\r", "\r\n", "\v", "\f", "\x00", "\u0085", "\u2028", "\u2029", "\x1e", ";"} {
		holdRefused(t, "w real 3"+end, api.ErrLine, 1)
		holdRefused(t, "w real 3"+end+"v real 3", api.ErrLine, 1)
		holdRefused(t, "w real 3\n"+end, api.ErrLine, 2)
	}
	holdRefused(t, "w real 3\\n", api.ErrLine, 1)
	holdRefused(t, "w real\n3", api.ErrLine, 1)
	holdRefused(t, "w\nreal 3", api.ErrLine, 1)
}

// TestBlanks: SG2, one blank at its two places: none, two and another kind of blank are faults, and so is one elsewhere.
func TestBlanks(t *testing.T) {
	for _, kind := range []string{"real", "complex"} {
		for _, line := range []string{
			"w" + kind + " 3", "w " + kind + "3", "w" + kind + "3", "w  " + kind + " 3", "w " + kind + "  3", " w " + kind + " 3", "w " + kind + " 3 ",
			"w " + kind + " ", "w " + kind, "w ", "w", " ", "  ", "   ", kind, " " + kind, kind + " 3", " " + kind + " 3", "w 3", "w  3", "w 3 " + kind, kind + " w 3",
			"w " + kind + " 3 4", "w " + kind + " 3 #", "w " + kind + " 3#", "w " + kind + " #", " #", " # w", "w # " + kind + " 3", "w " + kind + " 3 " + kind,
		} {
			holdRefused(t, line, api.ErrLine, 1)
			holdRefused(t, "v real 1\n"+line+"\nx real 1", api.ErrLine, 2)
		}
		for _, blank := range []string{"\t", "\v", "\f", "\r", "\x00", "\u00a0", "\u2002", "\u3000", "_", ",", "=", ":", " \t", "\t "} {
			holdRefused(t, "w"+blank+kind+" 3", api.ErrLine, 1)
			holdRefused(t, "w "+kind+blank+"3", api.ErrLine, 1)
			holdRefused(t, "w "+kind+" 3"+blank, api.ErrLine, 1)
			holdRefused(t, blank, api.ErrLine, 1)
		}
	}
}

// TestWords: SG2, `real` and `complex` and no other word.
func TestWords(t *testing.T) {
	for _, word := range []string{"", "Real", "REAL", "Complex", "COMPLEX", "rea", "reall", "comple", "complexx", "r", "c", "1", "2", "0", "int", "whole", "realcomplex", "\"real\"", "réal", "real,", "real\x00", "#real"} {
		holdRefused(t, "w "+word+" 3", api.ErrLine, 1)
	}
	holdParse(t, "real real 1\ncomplex complex 2", is("real", kindReal, 1), is("complex", kindComplex, 2))
	holdParse(t, "1 real 1\n2 complex 2\n- real 3", is("1", kindReal, 1), is("2", kindComplex, 2), is("-", kindReal, 3))
}

// TestLenTexts: SG2, each Len as digits without needless noughts, and what is no Len or is written otherwise.
func TestLenTexts(t *testing.T) {
	for n := 1; n <= maxLen; n++ {
		digits := strconv.FormatInt(int64(n), 10)
		holdParse(t, "w real "+digits, is("w", kindReal, n))
		holdParse(t, "w complex "+digits+"\n", is("w", kindComplex, n))
		holdRefused(t, "w real 0"+digits, api.ErrLine, 1)
		holdRefused(t, "w complex -"+digits, api.ErrLine, 1)
		holdRefused(t, "w complex +"+digits, api.ErrLine, 1)
	}
	for n := maxLen + 1; n <= 11*maxLen; n++ {
		holdRefused(t, "w real "+strconv.FormatInt(int64(n), 10), api.ErrLine, 1)
	}
	for _, digits := range []string{
		"", "0", "00", "-0", "+0", "-1", "+1", "-", "+", "003", "0x3", "0b1", "0o7", "1_0", "1e1", "1E1", "3.0", "3.", ".3", "3,0", "3a", "a3", "a", "x", "3-", "3+", "--3", "٣", "３", "3٣", "inf", "NaN", "3\x00", "\x003",
		"4097", "9999", "10000", "65536", "2147483648", "4294967297", "9223372036854775807", "9223372036854775808", "18446744073709551617", "18446744073709551619", "340282366920938463463374607431768211457",
		strings.Repeat("0", 5000) + "3", strings.Repeat("9", 65000), "1" + strings.Repeat("0", 65000),
	} {
		holdRefused(t, "w real "+digits, api.ErrLine, 1)
		holdRefused(t, "w complex "+digits+"\nv real 1", api.ErrLine, 1)
	}
}

// TestNamesInLines: SG2, a line's name is one that can be: each byte, no byte, MaxName bytes and one more.
func TestNamesInLines(t *testing.T) {
	for b := range 256 {
		name := "n" + string([]byte{byte(b)}) + "n"
		switch {
		case b == 10:
			holdRefused(t, name+" real 3", api.ErrLine, 1)
		case aName.MatchString(name):
			holdParse(t, name+" real 3", is(name, kindReal, 3))
		default:
			holdRefused(t, name+" real 3", api.ErrLine, 1)
		}
	}
	for n := range 3 * maxName {
		name := strings.Repeat("/", n)
		if n == 0 || n > maxName {
			holdRefused(t, name+" complex 3", api.ErrLine, 1)
		} else {
			holdParse(t, name+" complex 3", is(name, kindComplex, 3))
		}
	}
}

// TestLineNumbers: SG2, the first line at fault is told, with lines that say nothing ahead of it and other faults behind it.
func TestLineNumbers(t *testing.T) {
	holdRefused(t, "x", api.ErrLine, 1)
	holdRefused(t, "\nx", api.ErrLine, 2)
	holdRefused(t, "w real 3\nx", api.ErrLine, 2)
	holdRefused(t, "\n#\n\nw real 3\n# x\nx\ny\n\nz", api.ErrLine, 6)
	holdRefused(t, "#\n\nw real 3 ", api.ErrLine, 3)
	holdRefused(t, "w real 0\nw real 3\nw real 3", api.ErrLine, 1)
	for n := range 200 {
		idle, taken := strings.Repeat("\n", n), told(several(min(n, 50), kindReal, 1))
		holdRefused(t, idle+"x", api.ErrLine, n+1)
		holdRefused(t, idle+"x\ny\n", api.ErrLine, n+1)
		holdRefused(t, taken+"x\n"+taken+"y", api.ErrLine, min(n, 50)+1)
		holdRefused(t, idle+taken+"#\nx", api.ErrLine, n+min(n, 50)+2)
	}
	holdRefused(t, strings.Repeat("\n", maxSource-1)+"x", api.ErrLine, maxSource)
	holdRefused(t, strings.Repeat("#\n", maxSource/2-1)+"x\ny", api.ErrLong, 0)
	holdRefused(t, strings.Repeat("#\n", maxSource/2-1)+"x", api.ErrLine, maxSource/2)
}

// TestLineAheadOfCheck: SG2, a line at fault is told ahead of what Check says, wherever it stands; else Check's error with 0.
func TestLineAheadOfCheck(t *testing.T) {
	twice, heavy, long := "w real 3\nw real 3\n", told(several(17, kindReal, maxLen)), told(several(maxParams+1, kindReal, 1))
	for text, want := range map[string]api.Errno{
		twice: api.ErrTwice, heavy: api.ErrTotal, long: api.ErrLong, twice + heavy: api.ErrTwice, heavy + twice: api.ErrTwice, long + twice: api.ErrLong,
		twice + heavy + long: api.ErrLong, heavy + heavy: api.ErrTwice, "w real 3\n\n#\nw complex 1": api.ErrTwice, heavy + "# the end": api.ErrTotal,
	} {
		holdRefused(t, text, want, 0)
		holdRefused(t, "\n#\n"+text, want, 0)
		holdRefused(t, "x\n"+text, api.ErrLine, 1)
		whole := strings.TrimSuffix(text, "\n") + "\n"
		holdRefused(t, whole+"x", api.ErrLine, strings.Count(whole, "\n")+1)
		holdRefused(t, whole+"x\n"+text, api.ErrLine, strings.Count(whole, "\n")+1)
	}
	full := several(maxParams, kindReal, maxTotal/maxParams)
	holdParse(t, told(full), full...)
	holdParse(t, told(full[1:]), full[1:]...)
	holdParse(t, told(several(8, kindComplex, maxLen)), several(8, kindComplex, maxLen)...)
	holdRefused(t, told(several(8, kindComplex, maxLen))+"one real 1", api.ErrTotal, 0)
	holdRefused(t, told(full)+"one real 1", api.ErrLong, 0)
}

// TestLongTexts: SG2, texts of MaxSource bytes are read, those of one more are not, whatever stands in them.
func TestLongTexts(t *testing.T) {
	for _, filling := range []string{"\n", "#", "#\n", "# a word\n"} {
		idle := strings.Repeat(filling, 2*maxSource)
		holdParse(t, idle[:maxSource])
		holdRefused(t, idle[:maxSource+1], api.ErrLong, 0)
		text := exampleText + idle
		holdParse(t, text[:maxSource-1], example()...)
		holdParse(t, text[:maxSource], example()...)
		holdRefused(t, text[:maxSource+1], api.ErrLong, 0)
		holdRefused(t, text, api.ErrLong, 0)
	}
	holdParse(t, strings.Repeat("\n", maxSource-len(exampleText))+exampleText, example()...)
	holdRefused(t, strings.Repeat("\n", maxSource-len(exampleText)+1)+exampleText, api.ErrLong, 0)
	fault := strings.Repeat("x", maxSource)
	holdRefused(t, fault, api.ErrLine, 1)
	holdRefused(t, fault+"x", api.ErrLong, 0)
	holdRefused(t, "x\n"+fault, api.ErrLong, 0)
	many := strings.Repeat("w real 3\n", maxSource/9)
	holdRefused(t, many, api.ErrLong, 0)
	holdRefused(t, many+"x", api.ErrLine, maxSource/9+1)
	holdRefused(t, strings.Repeat(" ", maxSource), api.ErrLine, 1)
	holdRefused(t, strings.Repeat("w real 3\n", maxSource), api.ErrLong, 0)
}

// TestPrint: SG3, a line for each parameter, in their order, and no other.
func TestPrint(t *testing.T) {
	holdPrint(t, nil, "")
	holdPrint(t, []api.Param{}, "")
	holdPrint(t, list(is("w", kindReal, 1)), "w real 1\n")
	holdPrint(t, list(is("w", kindComplex, 1)), "w complex 1\n")
	holdPrint(t, list(is("w", kindReal, maxLen)), "w real 4096\n")
	holdPrint(t, list(is("z", kindReal, 10), is("a", kindComplex, 100), is("m", kindReal, 1000)), "z real 10\na complex 100\nm real 1000\n")
	name := strings.Repeat("Z", maxName)
	holdPrint(t, list(is(name, kindComplex, 7)), name+" complex 7\n")
	all := several(maxParams, kindComplex, 512)
	holdPrint(t, all, told(all))
	slices.Reverse(all)
	holdPrint(t, all, told(all))
}
