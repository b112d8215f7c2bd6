package lex

import (
	"strings"
	"testing"

	"lathe/api"
)

// TestMaxName: LX1, names, numbers and texts of MaxName bytes and of one more, or many more.
func TestMaxName(t *testing.T) {
	for _, c := range []struct {
		kind                     int
		quote, first, fill, last string
	}{
		{1, "", "", "a", ""}, {1, "", "_", "9", ""}, {1, "", "", "_", "z"},
		{3, "", "", "0", ""}, {3, "", "", "9", "1"},
		{2, "", "0.", "5", ""}, {2, "", "", "5", ".5"}, {2, "", "1e", "0", ""}, {2, "", "1.5E-", "0", "3"}, {2, "", "", "7", "e+1"},
		{4, `"`, "", "w", ""}, {4, `"`, "#", " ", "~"},
	} {
		build := func(n int) string {
			return c.first + strings.Repeat(c.fill, n-len(c.first)-len(c.last)) + c.last
		}
		for _, n := range []int{maxName - 1, maxName} {
			text := c.quote + build(n) + c.quote
			holdTokens(t, text, is(c.kind, build(n), 0), end(len(text)))
			holdTokens(t, "( "+text+" )", mark('(', 0), is(c.kind, build(n), 2), mark(')', 3+len(text)), end(4+len(text)))
		}
		for _, n := range []int{maxName + 1, maxName + 2, 2 * maxName, 1000, maxSource - 4} {
			text := c.quote + build(n) + c.quote
			holdRefused(t, text, api.ErrLong, 0)
			holdRefused(t, "( "+text, api.ErrLong, 2)
		}
	}
}

// TestLongAndWrong: LX1, of a token's errors the one that the chapter names first.
func TestLongAndWrong(t *testing.T) {
	digits := strings.Repeat("1", maxName)
	for _, text := range []string{digits + "x", digits + "1x", digits + "1.", digits + "1e", digits + "1e+", digits + "1.5.", digits + ".", "0." + digits + "_", "1e" + digits + "."} {
		holdRefused(t, text, api.ErrNumber, 0)
	}
	letters := strings.Repeat("w", maxName+1)
	for _, text := range []string{"\"" + letters, "\"" + letters + "\x7f\"", "\"\n" + letters + "\"", "\"" + letters + "\x00"} {
		holdRefused(t, text, api.ErrText, 0)
	}
	holdRefused(t, letters+"$", api.ErrLong, 0)
	holdRefused(t, letters+".", api.ErrLong, 0)
	holdRefused(t, letters[1:]+"$", api.ErrByte, maxName)
	holdRefused(t, digits+"$", api.ErrByte, maxName)
	holdRefused(t, digits+"1$", api.ErrLong, 0)
}

// TestFirstFault: LX1, of several faults the first one.
func TestFirstFault(t *testing.T) {
	faults := []struct {
		text string
		e    api.Errno
	}{
		{"$", api.ErrByte}, {"1.", api.ErrNumber}, {"2x", api.ErrNumber}, {strings.Repeat("a", maxName+1), api.ErrLong}, {strings.Repeat("1", maxName+1), api.ErrLong},
		{"\"\x01\"", api.ErrText}, {"\"" + strings.Repeat("a", maxName+1) + "\"", api.ErrLong}, {"\x80", api.ErrByte},
	}
	for _, first := range faults {
		for _, second := range faults {
			holdRefused(t, first.text+" "+second.text, first.e, 0)
			holdRefused(t, "a 12 "+first.text+"\n"+second.text+" b", first.e, 5)
		}
	}
}

// TestMaxSource: LX1, texts of MaxSource bytes and of one more.
func TestMaxSource(t *testing.T) {
	blanks := strings.Repeat(" ", maxSource-1)
	holdTokens(t, blanks+" ", end(maxSource))
	holdTokens(t, blanks+"a", name("a", maxSource-1), end(maxSource))
	holdTokens(t, "a"+blanks, name("a", 0), end(maxSource))
	holdTokens(t, "#"+blanks, end(maxSource))
	holdRefused(t, blanks+"$", api.ErrByte, maxSource-1)
	holdRefused(t, "$"+blanks, api.ErrByte, 0)
	holdRefused(t, "\""+blanks, api.ErrText, 0)
	holdRefused(t, blanks+"\"", api.ErrText, maxSource-1)
	for _, c := range []string{" ", "a", "(", "#", "$", "\"", "\n", "1", "\x00"} {
		for _, text := range []string{c + blanks + " ", blanks + " " + c, blanks + c + " ", strings.Repeat(c, maxSource+1), strings.Repeat(c, 3*maxSource)} {
			holdRefused(t, text, api.ErrLong, 0)
		}
	}
	holdRefused(t, "1. $"+blanks, api.ErrLong, 0)
}

// TestManyTokens: LX1, as many as there can be.
func TestManyTokens(t *testing.T) {
	var want []api.Token
	for at := range maxSource {
		want = append(want, mark('(', at))
	}
	holdTokens(t, strings.Repeat("(", maxSource), append(want, end(maxSource))...)
}
