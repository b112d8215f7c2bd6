package parse

import (
	"cmp"
	"slices"
	"strings"
	"sync"
	"testing"
	"unsafe"

	"lathe/api"
)

// A stretch of memory.
type stretch struct {
	from, to uintptr
	what     string
}

func stringStretch(s, what string) stretch {
	from := uintptr(unsafe.Pointer(unsafe.StringData(s)))
	return stretch{from, from + uintptr(len(s)), what}
}

// stretches are those of all lists of a tree, spare room too, and of all its texts.
func stretches(n api.Node, what string) []stretch {
	from := uintptr(unsafe.Pointer(unsafe.SliceData(n.Args)))
	all := []stretch{
		{from, from + uintptr(cap(n.Args))*unsafe.Sizeof(n), what + "'s list"},
		stringStretch(n.Name, what+"'s Name "+n.Name), stringStretch(n.Key, what+"'s Key "+n.Key),
	}
	for _, a := range n.Args {
		all = append(all, stretches(a, what)...)
	}
	return all
}

// holdApart: no two stretches have a byte in common.
func holdApart(t *testing.T, all ...[]stretch) {
	t.Helper()
	list := slices.DeleteFunc(slices.Concat(all...), func(s stretch) bool { return s.from == s.to })
	slices.SortFunc(list, func(a, b stretch) int { return cmp.Compare(a.from, b.from) })
	for i := 1; i < len(list); i++ {
		if list[i].from < list[i-1].to {
			t.Errorf("%s and %s share memory", list[i-1].what, list[i].what)
			return
		}
	}
}

// TestAnswersAreNew: rule 3, no answer shares memory with the text or another answer, nor do two lists of one.
func TestAnswersAreNew(t *testing.T) {
	texts := []string{program, "f()", "f(a,a,a,a=a)", nest(maxDepth, ""), lets(maxDepth-1) + "f()", "f(" + strings.Repeat("g(k=x),", 2000) + "1)"}
	programs(func(g *grower, n api.Node) {
		if g.upTo(10) == 0 {
			text, _ := written(n, tight)
			texts = append(texts, text)
		}
	})
	for _, text := range texts {
		text = strings.Clone(text)
		first, _, _ := Parse(text)
		second, _, _ := Parse(text)
		holdApart(t, []stretch{stringStretch(text, "the text")}, stretches(first, "a tree"), stretches(second, "another tree"))
	}
}

// overwrite changes all that a caller can change of a tree.
func overwrite(n *api.Node) {
	list := n.Args[:cap(n.Args)]
	for i := range list {
		overwrite(&list[i])
		list[i] = word(1, "changed")
	}
	*n = word(1, "changed")
}

// TestNothingIsKept: rules 3 and 4, a call answers the same again, whatever came ahead of it and was done with an answer.
func TestNothingIsKept(t *testing.T) {
	first, _, _ := Parse(program)
	second, _, _ := Parse(program)
	want := dump(first)
	overwrite(&first)
	if dump(second) != want {
		t.Error("an answer has changed with another one")
	}
	for _, text := range []string{"f(", "$", "f(1e39)", nest(maxDepth+1, ""), "f(" + strings.Repeat("1,", maxNodes) + "1)", "g()", program} {
		Parse(text)
		if again, e, at := Parse(program); dump(again) != want || e != 0 || at != 0 {
			t.Errorf("behind %q: %s, %d, %d", brief(text), brief(dump(again)), e, at)
		}
		holdRefused(t, "f(1,)", api.ErrSyntax, 4)
	}
}

// TestSideBySide: rule 4, calls that go on at the same time answer as they do alone.
func TestSideBySide(t *testing.T) {
	var all sync.WaitGroup
	for range 8 {
		all.Go(func() {
			for range 50 {
				holdTaken(t, program)
				holdRefused(t, program+"x", api.ErrSyntax, len(program))
				holdRefused(t, nest(maxDepth+1, ""), api.ErrDeep, 2*maxDepth)
			}
		})
	}
	all.Wait()
}
