package sign

import (
	"cmp"
	"slices"
	"strings"
	"sync"
	"testing"
	"unsafe"

	"lathe/api"
)

// A stretch of memory.
type stretch struct {
	from, to uintptr
	what     string
}

func stringStretch(s, what string) stretch {
	from := uintptr(unsafe.Pointer(unsafe.StringData(s)))
	return stretch{from, from + uintptr(len(s)), what}
}

// stretches are those of a list, spare room too, and of all its names.
func stretches(list []api.Param, what string) []stretch {
	from := uintptr(unsafe.Pointer(unsafe.SliceData(list)))
	all := []stretch{{from, from + uintptr(cap(list))*unsafe.Sizeof(api.Param{}), what}}
	for _, p := range list {
		all = append(all, stringStretch(p.Name, what+"'s "+p.Name))
	}
	return all
}

// holdApart: no two stretches have a byte in common.
func holdApart(t *testing.T, all ...[]stretch) {
	t.Helper()
	list := slices.DeleteFunc(slices.Concat(all...), func(s stretch) bool { return s.from == s.to })
	slices.SortFunc(list, func(a, b stretch) int { return cmp.Compare(a.from, b.from) })
	for i := 1; i < len(list); i++ {
		if list[i].from < list[i-1].to {
			t.Errorf("%s and %s share memory", list[i-1].what, list[i].what)
			return
		}
	}
}

// signatures are some of all sizes that may be.
func signatures() [][]api.Param {
	all := [][]api.Param{example(), several(1, kindReal, 1), several(maxParams, kindComplex, 1), {is(strings.Repeat("n", maxName), kindReal, 1)}}
	g := &grower{11}
	for len(all) < 200 {
		if list := g.signature(); checked(list) == api.OK {
			all = append(all, list)
		}
	}
	return all
}

// TestAnswersAreNew: rule 3, no answer shares memory with an argument or another answer, nor do two names of one.
func TestAnswersAreNew(t *testing.T) {
	for _, all := range signatures() {
		text := strings.Clone("# ahead\n" + told(all))
		first, _, _ := Parse(text)
		second, _, _ := Parse(text)
		one, _ := Print(first)
		other, _ := Print(first)
		holdApart(t, []stretch{stringStretch(text, "the text"), stringStretch(one, "a text"), stringStretch(other, "another text")},
			stretches(first, "a list"), stretches(second, "another list"))
	}
}

// TestArgumentsStay: rule 3, no argument is changed, neither is its spare room, and what stands there is not asked.
func TestArgumentsStay(t *testing.T) {
	for _, all := range append(signatures(), unlikely(), several(maxParams+1, kindReal, 1), slices.Concat(example(), example()), several(17, kindReal, maxLen)) {
		roomy := append(slices.Clone(all), is("spare", kindReal, 1), is("", 0, -1))[:len(all)]
		vectors := append(vectorsOf(all), []api.F{1}, []api.F{2, 3})[:len(all)]
		before := dump(roomy[:cap(roomy)])
		holdList(t, roomy)
		holdFind(t, roomy, "spare", 0, false)
		holdFits(t, roomy, vectors, true)
		if dump(roomy[:cap(roomy)]) != before {
			t.Errorf("%s was changed", brief(dump(all)))
		}
		rest := vectors[len(all) : len(all)+2]
		if !slices.EqualFunc(vectors, vectorsOf(all), slices.Equal) || !slices.Equal(slices.Concat(rest...), []api.F{1, 2, 3}) {
			t.Errorf("the vectors of %s were changed", brief(dump(all)))
		}
	}
}

// TestVectorsStay: rule 3, Fits changes no pattern and does not hang on them.
func TestVectorsStay(t *testing.T) {
	vectors := [][]api.F{{0x7f800001, 0xffffffff, api.Minus, 8, 9}, {1, 2, 3, 4, 0xff800001}}
	vectors[0], vectors[1] = vectors[0][:3], vectors[1][:4]
	holdFits(t, example(), vectors, true)
	holdFits(t, example(), vectors[:1], false)
	for i, want := range [][]api.F{{0x7f800001, 0xffffffff, api.Minus, 8, 9}, {1, 2, 3, 4, 0xff800001}} {
		if !slices.Equal(vectors[i][:5], want) {
			t.Errorf("the vector %d has become %x", i, vectors[i][:5])
		}
	}
}

// TestNothingIsKept: rules 3 and 4, a call answers the same again, whatever came ahead of it and was done with an answer.
func TestNothingIsKept(t *testing.T) {
	first, _, _ := Parse(exampleText)
	second, _, _ := Parse(exampleText)
	room := first[:cap(first)]
	for i := range room {
		room[i] = is("changed", kindReal, 1)
	}
	if !slices.Equal(second, example()) {
		t.Errorf("an answer has become %s", dump(second))
	}
	for _, text := range []string{"w", "w real 1\nw real 1", "b/c real 1\nw complex 9", told(several(65, kindReal, 1)), told(several(17, kindReal, maxLen)), strings.Repeat("\n", maxSource+1)} {
		Parse(text)
		holdParse(t, exampleText, example()...)
		holdPrint(t, example(), exampleText)
		holdRefused(t, exampleText+"w real 1", api.ErrTwice, 0)
		holdFind(t, example(), "b/c", 1, true)
		holdFind(t, example()[1:], "w", 0, false)
	}
	given := example()
	told, _ := Print(given)
	given[0].Name = "v"
	if told != exampleText {
		t.Errorf("the answer has become %q", told)
	}
	holdFind(t, given, "w", 0, false)
	holdFind(t, given, "v", 0, true)
}

// TestSideBySide: rule 4, calls that go on at the same time answer as they do alone.
func TestSideBySide(t *testing.T) {
	var all sync.WaitGroup
	for range 8 {
		all.Go(func() {
			for range 200 {
				holdText(t, exampleText)
				holdList(t, example())
				holdRefused(t, exampleText+"b/c real 1", api.ErrTwice, 0)
				holdRefused(t, exampleText+"x", api.ErrLine, 3)
			}
		})
	}
	all.Wait()
}
