package sign

import (
	"slices"
	"strings"
	"testing"

	"lathe/api"
	"lathe/samples"
)

// holdText: SG2 and SG5 at one text: Parse answers what the chapter's words say, and what it takes Check and Print take too.
func holdText(t *testing.T, text string) {
	t.Helper()
	want, e, line := parsed(text)
	if e != api.OK {
		holdRefused(t, text, e, line)
		return
	}
	holdParse(t, text, want...)
	list, _, _ := Parse(text)
	holdCheck(t, list, api.OK)
	holdPrint(t, list, without(text))
}

// holdList: SG1, SG3, SG4 and SG5 at one list.
func holdList(t *testing.T, list []api.Param) {
	t.Helper()
	e, sum, vectors := checked(list), 0, vectorsOf(list)
	holdCheck(t, list, e)
	for i, p := range list {
		if n := Numbers(p); n != counted(p) {
			t.Errorf("Numbers of %s: %d", brief(dump(list[i:])), n)
		}
		sum += counted(p)
		first := slices.IndexFunc(list, func(q api.Param) bool { return q.Name == p.Name })
		holdFind(t, list, p.Name, first, true)
	}
	if n := Total(list); n != sum {
		t.Errorf("Total of %s: %d, not %d", brief(dump(list)), n, sum)
	}
	holdFits(t, list, vectors, true)
	if e == api.OK {
		holdPrint(t, list, told(list))
		holdParse(t, told(list), list...)
	}
}

// texts gives all texts of the pieces, of at most n.
func texts(n int, pieces []string, yield func(string)) {
	yield("")
	if n == 0 {
		return
	}
	for _, p := range pieces {
		texts(n-1, pieces, func(rest string) { yield(p + rest) })
	}
}

// TestSmallTexts: SG2 and SG5, all texts of few pieces.
func TestSmallTexts(t *testing.T) {
	texts(6, []string{"w", " ", "real", "complex", "0", "1", "4096", "#", "\n", "\r"}, func(text string) { holdText(t, text) })
	texts(4, []string{"w real", "w ", "v complex ", " ", "9", "40", "\n", "-", "+", "\t", "x"}, func(text string) { holdText(t, text) })
}

// TestFewLines: SG2 and SG5, all texts of few lines, taken and not, that say nothing, that name one twice, that are heavy together.
func TestFewLines(t *testing.T) {
	heavy := strings.TrimSuffix(told(several(7, kindComplex, maxLen)), "\n")
	all := []string{"", "#", "# w real 1", "w real 1", "w complex 2", "v real 4096", "v complex 4096", "w real 0", "w real 1 ", "x", heavy, "-/._ real 12\r"}
	texts(4, joined(all), func(text string) {
		holdText(t, text)
		holdText(t, strings.TrimSuffix(text, "\n"))
	})
}

// joined are lines with their ends.
func joined(lines []string) []string {
	var all []string
	for _, line := range lines {
		all = append(all, line+"\n")
	}
	return all
}

// TestChangedLines: SG2 and SG5, lines with one byte changed, one more or one fewer, at each place, by each byte.
func TestChangedLines(t *testing.T) {
	long := strings.Repeat("n", maxName)
	for _, text := range []string{"w real 1\n", "b/c complex 12\n", "w real 4096\nz complex 4096", "\n# w\nA_9 real 7\n", "w real 1\nv real 1\n", long + " real 409\n"} {
		for i := 0; i <= len(text); i++ {
			for b := range 256 {
				c := string([]byte{byte(b)})
				holdText(t, text[:i]+c+text[i:])
				if i < len(text) {
					holdText(t, text[:i]+c+text[i+1:])
				}
			}
			holdText(t, text[:i])
			holdText(t, text[i:])
			for j := i; j <= len(text); j++ {
				holdText(t, text[:i]+text[j:])
			}
		}
	}
}

// A grower makes signatures and texts from all over, the same ones in each run.
type grower struct {
	samples.Source
}

func (g *grower) upTo(n int) int { return int(g.Next()>>8) % n }

// name has bytes of all that may be, mostly few.
func (g *grower) name() string {
	const allowed = "ABCDEFGHIJKLMNOPQRSTUVWXYZabcdefghijklmnopqrstuvwxyz0123456789_./-"
	var b strings.Builder
	for range []int{1, 1, 2, 3, 8, maxName - 1, maxName, 1 + g.upTo(maxName)}[g.upTo(8)] {
		b.WriteByte(allowed[g.upTo(len(allowed))])
	}
	return b.String()
}

// param is one that may be; few of them are so heavy that MaxParams of them are too heavy.
func (g *grower) param() api.Param {
	n := []int{1, 2, 9, 10, 99, 1 + g.upTo(500), maxLen, 1 + g.upTo(maxLen)}[g.upTo(8)]
	return is(g.name(), 1+g.upTo(2), n)
}

// signature has parameters that may be; names may stand twice, and numbers be too many.
func (g *grower) signature() []api.Param {
	var all []api.Param
	for range []int{0, 1, 2, 3, 5, 10, 20, maxParams, maxParams + 1, g.upTo(maxParams)}[g.upTo(10)] {
		all = append(all, g.param())
	}
	return all
}

// spoil makes one of the parameters another one, which may not be.
func (g *grower) spoil(all []api.Param) []api.Param {
	if len(all) == 0 {
		return unlikely()[:1]
	}
	all[g.upTo(len(all))] = unlikely()[g.upTo(len(unlikely()))]
	return all
}

// noise is lines that say nothing.
func (g *grower) noise() string {
	var b strings.Builder
	for g.upTo(3) == 0 {
		if g.upTo(2) == 0 {
			b.WriteByte('#')
			for range g.upTo(20) {
				b.WriteByte(byte(11 + g.upTo(245)))
			}
		}
		b.WriteByte(10)
	}
	return b.String()
}

// TestSignaturesFromAllOver: SG1 to SG5, at signatures of all sizes, and at texts with lines between that say nothing.
func TestSignaturesFromAllOver(t *testing.T) {
	g, taken, refused := &grower{10}, 0, map[api.Errno]int{}
	for range 5000 {
		all := g.signature()
		holdList(t, all)
		e := checked(all)
		noisy := g.noise()
		for line := range strings.Lines(told(all)) {
			noisy += line + g.noise()
		}
		if e != api.OK {
			refused[e]++
			holdRefused(t, noisy, e, 0)
		} else {
			taken++
			holdParse(t, noisy, all...)
			holdParse(t, strings.TrimSuffix(noisy, "\n"), all...)
			if without(noisy) != told(all) {
				t.Fatalf("%q has not the lines of %s", brief(noisy), brief(dump(all)))
			}
		}
		holdText(t, noisy)
		holdList(t, g.spoil(all))
	}
	if taken < 2000 || refused[api.ErrLong] < 50 || refused[api.ErrTwice] < 50 || refused[api.ErrTotal] < 50 {
		t.Errorf("%d were taken, %v refused: that tells too little", taken, refused)
	}
}

// TestSmallLists: SG1, SG3 and SG4, all lists of few parameters that may be or may not.
func TestSmallLists(t *testing.T) {
	some := []api.Param{is("w", kindReal, 1), is("w", kindComplex, maxLen), is("v", kindReal, maxLen), is("V", kindComplex, 2), is("", kindReal, 1), is("w", 3, 1), is("v", kindReal, 0), is("u v", kindReal, 1)}
	lists := [][]api.Param{nil}
	for range 4 {
		for _, l := range lists {
			for _, p := range some {
				lists = append(lists, append(slices.Clone(l), p))
			}
		}
		slices.SortFunc(lists, func(a, b []api.Param) int { return strings.Compare(dump(a), dump(b)) })
		lists = slices.CompactFunc(lists, slices.Equal)
	}
	for _, l := range lists {
		holdList(t, l)
	}
}
