package lex

import (
	"slices"
	"strings"
	"testing"
	"unsafe"

	"lathe/api"
)

func holdShow(t *testing.T, want string, list ...api.Token) {
	t.Helper()
	before := slices.Clone(list)
	if got := Show(list); got != want {
		t.Errorf("Show(%v) = %q, want %q", list, got, want)
	}
	if !slices.Equal(list, before) {
		t.Errorf("Show has changed its argument: %v, was %v", list, before)
	}
}

// TestShowExamples: LX2, of what Scan tells of the chapter's texts.
func TestShowExamples(t *testing.T) {
	for text, want := range map[string]string{
		"":                     "",
		"scale( 0.5 )  # half": "scale ( 0.5 )",
		`a=-12,"w*"`:           `a = - 12 , "w*"`,
		"\n# b\n(\t)\r;":       "( ) ;",
		`"" "" 1E+05`:          `"" "" 1E+05`,
	} {
		list, _, _ := Scan(text)
		holdShow(t, want, list...)
	}
}

// shows is what Show answers of one token of each kind, with that Text.
func shows(text string) map[int]string {
	return map[int]string{1: text, 2: text, 3: text, 4: `"` + text + `"`, 5: "(", 6: ")", 7: ",", 8: "=", 9: "-", 10: ";"}
}

// otherTexts are such as no token of most kinds has in a text.
func otherTexts() []string {
	return []string{"", "w", "scale", "1.5", "12", "(", ")", ",", "=", "-", ";", "\"", "\"w\"", " ", "  ", " w ", "#", "\n", "\x00\xff", "\u00e9", strings.Repeat("a", maxName+1)}
}

// TestShowKinds: LX2, each kind, alone, whatever its Text and its place are.
func TestShowKinds(t *testing.T) {
	for _, text := range otherTexts() {
		for kind, want := range shows(text) {
			for _, at := range []int{0, 7, -1, 1 << 62} {
				holdShow(t, want, is(kind, text, at))
			}
		}
	}
}

// leftOut are kinds of which Show tells nothing: TokenEnd, and such as are none.
func leftOut() []int {
	const most = int(^uint(0) >> 1)
	return []int{0, 11, 12, -1, -5, 100, 256 + 1, 1<<32 + 5, most, -most - 1}
}

// TestShowLeftOut: LX2, in each place, with a Text and without, and what stands about is still one blank apart.
func TestShowLeftOut(t *testing.T) {
	holdShow(t, "")
	holdShow(t, "", end(0))
	holdShow(t, "", end(0), end(0), end(0))
	list := []api.Token{name("a", 0), whole("1", 2), mark(',', 4), quoted("b", 6)}
	for _, kind := range leftOut() {
		for _, text := range otherTexts() {
			out := is(kind, text, 3)
			holdShow(t, "", out)
			holdShow(t, "", out, out, end(0))
			for place := range len(list) + 1 {
				holdShow(t, `a 1 , "b"`, slices.Insert(slices.Clone(list), place, out)...)
				holdShow(t, `a 1 , "b"`, slices.Insert(slices.Clone(list), place, out, end(1), out)...)
			}
		}
	}
}

// TestShowPairs: LX2, one blank between two, all kinds behind all, empty Texts too.
func TestShowPairs(t *testing.T) {
	for _, first := range otherTexts() {
		for _, second := range []string{"", "w", " ", "\""} {
			for a, left := range shows(first) {
				for b, right := range shows(second) {
					holdShow(t, left+" "+right, is(a, first, 0), is(b, second, 0))
					holdShow(t, right+" "+left+" "+right, is(b, second, 5), is(a, first, 0), is(b, second, 5))
				}
			}
		}
	}
}

// TestShowMany: LX2.
func TestShowMany(t *testing.T) {
	const n = 100000
	list := slices.Repeat([]api.Token{name("ab", 0)}, n)
	if got := Show(list); got != strings.TrimRight(strings.Repeat("ab ", n), " ") {
		t.Error("Show of many tokens has", len(got), "bytes")
	}
}

// TestScanAlone: rule 3: no list that Scan answers shares memory with another, spare room too.
func TestScanAlone(t *testing.T) {
	for _, text := range []string{"", "a", "scale( 0.5 )  # half", `a=-12,"w*"`, strings.Repeat("(", 1000)} {
		first, _, _ := Scan(text)
		want := slices.Clone(first)
		second, _, _ := Scan(text)
		for i, room := 0, second[:cap(second)]; i < len(room); i++ {
			room[i] = is(7, "other", 99)
		}
		third, _, _ := Scan(text)
		if !slices.Equal(first, want) || !slices.Equal(third, want) {
			t.Errorf("Scan(%q) hangs on what was done with another answer", brief(text))
		}
		for i, room := 0, third[:cap(third)]; i < len(room); i++ {
			room[i] = is(8, "another", 98)
		}
		if !slices.Equal(first, want) {
			t.Errorf("answers of Scan(%q) share memory", brief(text))
		}
	}
}

// within tells whether some byte of a part stands in the memory of the whole.
func within(part, whole string) bool {
	if part == "" || whole == "" {
		return false
	}
	p, w := uintptr(unsafe.Pointer(unsafe.StringData(part))), uintptr(unsafe.Pointer(unsafe.StringData(whole)))
	return p < w+uintptr(len(whole)) && w < p+uintptr(len(part))
}

// TestTextsAlone: rule 3: neither a token's Text nor what Show answers stands in an argument's memory.
func TestTextsAlone(t *testing.T) {
	text := strings.Clone(`scale( 0.5 , 12 ) = - ; "w*"`)
	list, _, _ := Scan(text)
	for _, token := range list {
		if within(token.Text, text) {
			t.Errorf("%q stands in the text that was scanned", token.Text)
		}
		if within(Show([]api.Token{token}), token.Text) {
			t.Errorf("what Show tells stands in %q", token.Text)
		}
	}
	if a, b := Show(list[:1]), Show(list[:1]); within(a, b) {
		t.Error("two answers of Show share memory")
	}
}
