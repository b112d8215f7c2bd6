package lex

import (
	"regexp"
	"slices"
	"strings"
	"testing"

	"lathe/api"
	"lathe/samples"
)

// The chapter's words as patterns.
var (
	nothing   = regexp.MustCompile(`^(?:[\t\n\r ]|#[^\n]*)*`)
	between   = regexp.MustCompile(`^(?:[\t\n\r ]|#[^\n]*\n)*$`)
	behind    = regexp.MustCompile(`^(?:[\t\n\r ]|#[^\n]*\n)*(?:#[^\n]*)?$`)
	aName     = regexp.MustCompile(`^[a-z_][a-z_0-9]*`)
	aNumber   = regexp.MustCompile(`^[0-9]+(\.[0-9]+)?([eE][+-]?[0-9]+)?`)
	aText     = regexp.MustCompile(`^"[ !#-~]*"`)
	allNumber = regexp.MustCompile(`^[0-9]+(\.[0-9]+)?([eE][+-]?[0-9]+)?$`)
)

// first is the token with which a text begins, by the patterns, and its bytes; or its error.
func first(text string) (int, string, api.Errno) {
	kind, token, counted := 0, "", 0
	switch c := text[0]; {
	case aName.MatchString(text):
		kind, token = 1, aName.FindString(text)
		counted = len(token)
	case c >= '0' && c <= '9':
		parts := aNumber.FindStringSubmatch(text)
		kind, token, counted = 3, parts[0], len(parts[0])
		if parts[1]+parts[2] != "" {
			kind = 2
		}
		rest := text[len(token):]
		if rest != "" && (strings.Contains(".abcdefghijklmnopqrstuvwxyz_", rest[:1]) || rest[0] == 'E' && parts[2] == "") {
			return 0, "", api.ErrNumber
		}
	case c == '"':
		if !aText.MatchString(text) {
			return 0, "", api.ErrText
		}
		kind, token = 4, aText.FindString(text)
		counted = len(token) - 2
	case isMark(c):
		kind, token = mark(c, 0).Kind, text[:1]
	default:
		return 0, "", api.ErrByte
	}
	if counted > maxName {
		return 0, "", api.ErrLong
	}
	return kind, token, api.OK
}

// scanned is what Scan must tell, by the patterns.
func scanned(text string) ([]api.Token, api.Errno, int) {
	var list []api.Token
	for at := 0; ; {
		at += len(nothing.FindString(text[at:]))
		if at == len(text) {
			return append(list, end(at)), api.OK, 0
		}
		kind, token, e := first(text[at:])
		if e != api.OK {
			return nil, e, at
		}
		content := token
		if kind == 4 {
			content = strings.Trim(token, `"`)
		}
		list = append(list, is(kind, content, at))
		at += len(token)
	}
}

// texts gives all texts of the pieces, of at most n.
func texts(n int, pieces []string, yield func(string)) {
	var grow func(string, int)
	grow = func(text string, left int) {
		yield(text)
		if left > 0 {
			for _, p := range pieces {
				grow(text+p, left-1)
			}
		}
	}
	grow("", n)
}

// mixed gives texts of up to n pieces from all over, with blanks or without.
func mixed(count, n int, yield func(string)) {
	pieces := []string{
		"a", "scale", "_x9", "e", "e5", "0", "12", "0.5", "1e-3", "2.5E+7", "1.", "1e", ".", "+", "E", `""`, `"w*"`, `"#"`, `"`, "(", ")", ",", "=", "-", ";",
		" ", "\t", "\n", "\r", "  ", "# c\n", "#", "$", "\x00", "\x7f", "\xff", "\u00e9", strings.Repeat("a", 40), strings.Repeat("1", 40), `"` + strings.Repeat("w", 64) + `"`,
	}
	s := samples.Source(6)
	for range count {
		var text strings.Builder
		good := s.Next()>>8&3 != 0 // most of them without pieces that are wrong wherever they stand
		for range s.Next() >> 8 % api.F(n+1) {
			p := pieces[s.Next()>>8%api.F(len(pieces))]
			if _, e, _ := Scan(p); good && e != api.OK {
				p = " "
			}
			text.WriteString(p)
		}
		yield(text.String())
	}
}

// eachText holds a law of short texts of all kinds, and of mixed ones, up to the first that breaks it.
func eachText(t *testing.T, hold func(string)) {
	yield := func(text string) {
		if !t.Failed() {
			hold(text)
		}
	}
	texts(4, strings.Split("a,_,e,E,0,.,+,-,\",#,\n, ,(,$,\x80", ","), yield)
	texts(6, strings.Split("1,.,e,E,-,x", ","), yield)
	texts(6, strings.Split("\",a,#,\n,\x7f", ","), yield)
	mixed(20000, 12, yield)
	mixed(200, 400, yield)
}

// TestByPatterns: LX1, against the chapter's words as patterns.
func TestByPatterns(t *testing.T) {
	eachText(t, func(text string) {
		list, e, at := scanned(text)
		if e == api.OK {
			holdTokens(t, text, list...)
		} else {
			holdRefused(t, text, e, at)
		}
	})
}

// written is a token as it stands in a text.
func written(token api.Token) string {
	if token.Kind == api.TokenText {
		return `"` + token.Text + `"`
	}
	return token.Text
}

// longer tells whether a token could be longer by what follows it.
func longer(token api.Token, follows string) bool {
	switch token.Kind {
	case api.TokenName:
		return follows != "" && aName.FindString("a"+follows[:1]) != "a"
	case api.TokenWhole, api.TokenNumber:
		for n := 1; n <= min(len(follows), 4); n++ {
			if allNumber.MatchString(token.Text + follows[:n]) {
				return true
			}
		}
	case api.TokenText:
		return strings.Contains(token.Text, `"`)
	}
	return false
}

// TestTheorem: LX3, places, what stands there, between and behind.
func TestTheorem(t *testing.T) {
	taken := 0
	eachText(t, func(text string) {
		list, e, _ := Scan(text)
		if e != api.OK {
			return
		}
		taken++
		last := len(list) - 1
		if list[last] != end(len(text)) {
			t.Errorf("Scan(%q) ends with %v", brief(text), list[last])
		}
		from := 0
		for i, token := range list[:last] {
			word := written(token)
			if token.Kind < 1 || token.Kind > 10 || token.At < from || word == "" || i > 0 && token.At <= list[i-1].At {
				t.Fatalf("Scan(%q) tells %v in the place %d", brief(text), token, i)
			}
			if !strings.HasPrefix(text[token.At:], word) || !between.MatchString(text[from:token.At]) {
				t.Errorf("Scan(%q) tells %v behind %q", brief(text), token, text[from:token.At])
			}
			from = token.At + len(word)
			if longer(token, text[from:]) {
				t.Errorf("Scan(%q) tells %v, which could be longer", brief(text), token)
			}
		}
		if !behind.MatchString(text[from:]) {
			t.Errorf("Scan(%q) leaves %q", brief(text), text[from:])
		}
	})
	if taken < 10000 {
		t.Error("only", taken, "texts were taken")
	}
}

// same tells whether two lists have the same kinds and texts.
func same(a, b []api.Token) bool {
	return slices.EqualFunc(a, b, func(x, y api.Token) bool { return x.Kind == y.Kind && x.Text == y.Text })
}

// TestScanOfShow: LX3, as far as Show's text is short enough to be scanned.
func TestScanOfShow(t *testing.T) {
	hold := func(text string) {
		list, e, _ := Scan(text)
		if e != api.OK {
			return
		}
		again, e, at := Scan(Show(list))
		if e != api.OK || at != 0 || !same(list, again) {
			t.Errorf("Scan of Show of %q: %v, %d, %d, was %v", brief(text), some(again), e, at, some(list))
		}
		if Show(again) != Show(list) {
			t.Errorf("Show of Scan of Show of %q = %q", brief(text), brief(Show(again)))
		}
	}
	eachText(t, hold)
	hold(strings.Repeat("(", maxSource/2))
	hold(strings.Repeat("a;", maxSource/4))
}

// moved are tokens so much further on.
func moved(list []api.Token, by int) []api.Token {
	list = slices.Clone(list)
	for i := range list {
		list[i].At += by
	}
	return list
}

// TestBlanksAhead: LX4, and a text that is refused is refused so much further on.
func TestBlanksAhead(t *testing.T) {
	eachText(t, func(text string) {
		list, e, at := Scan(text)
		for _, blanks := range []string{" ", "\t", "\n", "\r", " \t\n\r  "} {
			if e == api.OK {
				holdTokens(t, blanks+text, moved(list, len(blanks))...)
			} else {
				holdRefused(t, blanks+text, e, at+len(blanks))
			}
		}
	})
	list, _, _ := Scan("scale( 0.5 )  # half")
	holdTokens(t, strings.Repeat("\r", maxSource-20)+"scale( 0.5 )  # half", moved(list, maxSource-20)...)
}

// TestBlanksBetween: LX4, ahead of each token and behind it.
func TestBlanksBetween(t *testing.T) {
	hold := func(text string) {
		list, e, _ := Scan(text)
		if e != api.OK || t.Failed() {
			return
		}
		for i, token := range list {
			want := append(slices.Clone(list[:i]), moved(list[i:], 1)...)
			for _, blank := range []string{" ", "\t", "\n", "\r"} {
				holdTokens(t, text[:token.At]+blank+text[token.At:], want...)
				if i > 0 {
					back := list[i-1].At + len(written(list[i-1]))
					holdTokens(t, text[:back]+blank+text[back:], want...)
				}
			}
		}
	}
	texts(4, strings.Split("a,e,E,0,.,-,\",#,\n, ,(", ","), hold)
	mixed(5000, 12, hold)
}
