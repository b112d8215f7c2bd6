package mask

import (
	"strings"
	"testing"

	"lathe/samples"
)

// holdMeant: Match answers what the chapter's words say.
func holdMeant(t *testing.T, glob, name string) {
	t.Helper()
	holdMatch(t, glob, name, meant(glob, name))
}

// TestPlainGlobs: M1, without stars and marks a glob means itself alone.
func TestPlainGlobs(t *testing.T) {
	names := []string{"", "w", "b", "W", "ww", "w1", "1w", " w", "w ", "layer/0.bias-x_Y", "layer/0.bias-x_", "layer/0.bias-x_y", "\x00", "\xff", "\xc3\xa9", "e"}
	for _, glob := range names {
		for _, name := range names {
			holdMatch(t, glob, name, glob == name)
		}
	}
}

// TestStars: M1, stars at the beginning, between, at the end, next to each other, alone.
func TestStars(t *testing.T) {
	for _, name := range []string{"", "w", "ww", "w*w", "\x00\n\xff", strings.Repeat("n", 1000)} {
		for count := 1; count < 5; count++ {
			holdMatch(t, strings.Repeat("*", count), name, true)
		}
	}
	for _, c := range []struct{ glob, yes, no string }{
		{"w*", "w w1 w/b ww", "bw b W"},
		{"*w", "w 1w b/w ww", "wb b w."},
		{"*w*", "w ww awb wb aw", "b a/b W"},
		{"a*b", "ab a/b aab abb abab", "a b ba abc cab abba"},
		{"a**b", "ab a/b aab", "a b abc"},
		{"**a", "a ba aa", "ab b"},
		{"a***", "a ab aaa", "b ba"},
		{"a*b*c", "abc abbc aXbXc abcbc acbc", "ac ab acb abcd cba"},
		{"ab*bc", "abbc abXbc ababcbc", "abc ab bc abcb"},
		{"aba*aba", "abaaba abaXaba", "aba ababa ab"},
		{"*ab*ab*", "abab XabXabX ababab", "ab aab abXa aba"},
		{"*.bias", "x.bias .bias a.b.bias", "bias x.bias2 x.Bias"},
	} {
		for _, name := range strings.Fields(c.yes) {
			holdMatch(t, c.glob, name, true)
		}
		for _, name := range strings.Fields(c.no) {
			holdMatch(t, c.glob, name, false)
		}
		holdMatch(t, c.glob, "", false)
	}
}

// TestTakenBack: M1, a star whose first try must be taken back, also several times and by several stars.
func TestTakenBack(t *testing.T) {
	holdMatch(t, "*ab", "aab", true)
	holdMatch(t, "*ab", "abab", true)
	holdMatch(t, "a*bc", "abbc", true)
	holdMatch(t, "a*bc", "abcbc", true)
	holdMatch(t, "*aab*", "aaab", true)
	holdMatch(t, "*a?b*", "aaXab", false)
	holdMatch(t, "*a?b*", "aaXb", true)
	holdMatch(t, "*aba*c", "ababac", true)
	holdMatch(t, "*issip*", "mississippi", true)
	holdMatch(t, "*issi*ippi", "mississippi", true)
	holdMatch(t, "*ississ*sippi", "mississippi", false)
	holdMatch(t, "*a*b*c", "abcabc", true)
	holdMatch(t, "*a*b*c", "acbacab", false)
	holdMatch(t, "x*aab*aab", "xaaabaaab", true)
	holdMatch(t, "*???a", "aaa", false)
	holdMatch(t, "*???a", "aaaa", true)
}

// TestMarks: M1, marks stand for one byte each, whichever it is.
func TestMarks(t *testing.T) {
	for length := range 8 {
		for count := range 8 {
			marks := strings.Repeat("?", count)
			holdMatch(t, marks, strings.Repeat("n", length), count == length)
			holdMatch(t, marks+"*", strings.Repeat("n", length), count <= length)
			holdMatch(t, "*"+marks, strings.Repeat("n", length), count <= length)
			holdMatch(t, "*"+strings.Repeat("?*", count), strings.Repeat("n", length), count <= length)
		}
	}
	for _, c := range []struct{ glob, yes, no string }{
		{"a?c", "abc aac a?c a*c", "ac abbc abd bbc abcc"},
		{"?w", "ww 1w ?w", "w wb w1 1ww"},
		{"w?", "ww w1 w?", "w bw w12"},
		{"?*?", "ab abc aa", "a"},
		{"a?*", "ab abc", "a ba"},
		{"*?a", "aa ba aba", "a ab"},
	} {
		for _, name := range strings.Fields(c.yes) {
			holdMatch(t, c.glob, name, true)
		}
		for _, name := range strings.Fields(c.no) {
			holdMatch(t, c.glob, name, false)
		}
		holdMatch(t, c.glob, "", false)
	}
	holdMatch(t, "?", "\xc3\xa9", false)
	holdMatch(t, "??", "\xc3\xa9", true)
	holdMatch(t, "\xc3?", "\xc3\xa9", true)
	holdMatch(t, "*\xa9", "\xc3\xa9", true)
}

// TestNamesWithStars: M1, a star and a mark in a name are bytes like others.
func TestNamesWithStars(t *testing.T) {
	holdMatch(t, "*", "*", true)
	holdMatch(t, "?", "*", true)
	holdMatch(t, "?", "?", true)
	holdMatch(t, "a", "*", false)
	holdMatch(t, "a", "?", false)
	holdMatch(t, "", "*", false)
	holdMatch(t, "ab", "a*", false)
	holdMatch(t, "ab", "a?", false)
	holdMatch(t, "ab", "*", false)
	holdMatch(t, "a*b", "a**b", true)
	holdMatch(t, "a*b", "a*", false)
	holdMatch(t, "a*b", "*b", false)
	holdMatch(t, "a?b", "a*b", true)
	holdMatch(t, "a?b", "a**b", false)
	holdMatch(t, "*b", "*", false)
}

// everyByte has one of each value.
func everyByte() string {
	all := make([]byte, 256)
	for i := range all {
		all[i] = byte(i)
	}
	return string(all)
}

// TestEveryByte: M1, bytes of every value against each other, also behind, ahead of and between stars.
func TestEveryByte(t *testing.T) {
	for g := range 256 {
		one := string([]byte{byte(g)})
		holdMatch(t, "?", one, true)
		holdMatch(t, "*", one, true)
		holdMatch(t, "a*b?c", "a"+one+"b"+one+"c", true)
		holdMatch(t, one, "", g == '*')
		for n := range 256 {
			name := string([]byte{byte(n)})
			want := g == n || g == '*' || g == '?'
			holdMatch(t, one, name, want)
			holdMatch(t, "x"+one+"y", "x"+name+"y", want)
			holdMatch(t, "*"+one, "xy"+name, want)
			holdMatch(t, one+"*", name+"xy", want)
			holdMatch(t, "*\x01\x02"+one+"*", "x\x01\x02"+name+"y", want)
		}
	}
}

// texts gives all texts of the pieces, of at most n.
func texts(n int, pieces []string, yield func(string)) {
	yield("")
	if n == 0 {
		return
	}
	for _, p := range pieces {
		texts(n-1, pieces, func(rest string) { yield(p + rest) })
	}
}

// TestSmallGlobs: M1, all globs of few bytes against all names of few bytes.
func TestSmallGlobs(t *testing.T) {
	all := []string{"a", "b", "*", "?"}
	texts(6, all, func(glob string) {
		texts(5, []string{"a", "b"}, func(name string) { holdMeant(t, glob, name) })
	})
	texts(4, all, func(glob string) {
		texts(4, all, func(name string) { holdMeant(t, glob, name) })
	})
	texts(6, []string{"aab", "ab", "*", "?"}, func(glob string) { holdMeant(t, glob, "aabaaabab") })
}

// TestGlobsFromAllOver: M1, longer globs, made of a name so that many mean it, and names of few bytes and of all.
func TestGlobsFromAllOver(t *testing.T) {
	g, yes, no := &grower{samples.Source(111)}, 0, 0
	for range 30000 {
		name := g.bytes([]string{"ab", "ab*?", everyByte()}[g.upTo(3)], g.upTo(40))
		glob := g.globOf(name)
		if g.upTo(2) == 0 {
			glob = g.spoilt(g.spoilt(glob))
		}
		holdMeant(t, glob, name)
		if meant(glob, name) {
			yes++
		} else {
			no++
		}
	}
	if yes < 10000 || no < 5000 {
		t.Errorf("%d globs mean their names, %d do not: that tells too little", yes, no)
	}
}

// TestLongGlobs: M1 and P1, long names and globs with many stars: a call ends soon.
func TestLongGlobs(t *testing.T) {
	const size = 1 << 17
	a := strings.Repeat("a", size)
	for _, c := range []struct {
		glob, name string
		want       bool
	}{
		{a, a, true}, {a, a[1:], false}, {a[1:], a, false}, {a + "b", a + "c", false},
		{strings.Repeat("?", size), a, true}, {strings.Repeat("?", size), a[1:], false},
		{strings.Repeat("*", size), a, true}, {strings.Repeat("*", size), "", true}, {strings.Repeat("*", size) + "b", a, false},
		{strings.Repeat("*a", size), a, true}, {strings.Repeat("*a", size), a[1:], false},
		{strings.Repeat("a*", size), a, true}, {strings.Repeat("a*", size) + "b", a + a, false},
		{strings.Repeat("*a", 1000) + "*b", a, false}, {strings.Repeat("*a", 1000) + "b*", a, false},
		{strings.Repeat("*?", size), a, true}, {strings.Repeat("*?", size+1), a, false},
		{"*" + a + "b", a + a, false}, {"*" + a + "b", a + a + "b", true}, {"b" + a + "*", a + a, false},
		{"*a", strings.Repeat("b", size) + "a", true}, {"*aab*", a + "b", true}, {"*baa*", a, false},
		{"*" + a[:2000] + "b*", a[:20000], false}, {"*" + strings.Repeat("?a", 1000) + "b*", a[:20000] + "b", true},
	} {
		holdMatch(t, c.glob, c.name, c.want)
	}
}
