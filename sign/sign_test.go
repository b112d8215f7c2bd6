package sign

import (
	"slices"
	"strconv"
	"strings"
	"testing"

	"lathe/api"
)

// The limits and the kinds as the document has them.
const (
	maxName   = 64
	maxParams = 64
	maxLen    = 4096
	maxTotal  = 65536
	maxSource = 65536

	kindReal    = 1
	kindComplex = 2

	maxInt = int(^uint(0) >> 1)
	minInt = -maxInt - 1
)

func is(name string, kind, n int) api.Param { return api.Param{Name: name, Kind: kind, Len: n} }

func list(all ...api.Param) []api.Param { return all }

// several are n parameters that are alike but for their names.
func several(n, kind, length int) []api.Param {
	var all []api.Param
	for i := range n {
		all = append(all, is("p"+strconv.Itoa(i), kind, length))
	}
	return all
}

// example is the signature of the chapter's first example.
func example() []api.Param { return list(is("w", kindReal, 3), is("b/c", kindComplex, 2)) }

const exampleText = "w real 3\nb/c complex 2\n"

// brief is a text, or the beginning of a long one.
func brief(s string) string {
	if len(s) > 200 {
		return s[:200] + ".."
	}
	return s
}

// dump shows a list with all that it holds.
func dump(list []api.Param) string {
	var b strings.Builder
	for _, p := range list {
		b.WriteString("{" + strconv.Quote(p.Name) + " " + strconv.Itoa(p.Kind) + " " + strconv.Itoa(p.Len) + "}")
	}
	return b.String()
}

// holdCheck: what Check answers; Print answers the same error and no text, or OK.
func holdCheck(t *testing.T, list []api.Param, want api.Errno) {
	t.Helper()
	if e := Check(list); e != want {
		t.Errorf("Check of %s: %d, not %d", brief(dump(list)), e, want)
	}
	if text, e := Print(list); e != want || e != api.OK && text != "" {
		t.Errorf("Print of %s: %q, %d, not %d", brief(dump(list)), brief(text), e, want)
	}
}

// holdPrint: what Print tells of a list that may be.
func holdPrint(t *testing.T, list []api.Param, want string) {
	t.Helper()
	if text, e := Print(list); text != want || e != api.OK {
		t.Errorf("Print of %s: %q, %d, not %q", brief(dump(list)), brief(text), e, brief(want))
	}
}

// holdParse: a text that Parse takes, and its parameters.
func holdParse(t *testing.T, text string, want ...api.Param) {
	t.Helper()
	if list, e, line := Parse(text); !slices.Equal(list, want) || e != api.OK || line != 0 {
		t.Errorf("Parse of %q: %s, %d, %d, not %s", brief(text), brief(dump(list)), e, line, brief(dump(want)))
	}
}

// holdRefused: a text that Parse does not take, its error and the line.
func holdRefused(t *testing.T, text string, want api.Errno, at int) {
	t.Helper()
	if list, e, line := Parse(text); len(list) != 0 || e != want || line != at {
		t.Errorf("Parse of %q: %s, %d, %d, not %d, %d", brief(text), brief(dump(list)), e, line, want, at)
	}
}

// holdFind: where Find finds a name.
func holdFind(t *testing.T, list []api.Param, name string, want int, found bool) {
	t.Helper()
	if at, ok := Find(list, name); at != want || ok != found {
		t.Errorf("Find %q in %s: %d, %t, not %d, %t", brief(name), brief(dump(list)), at, ok, want, found)
	}
}

// TestFirstExample: SG2 to SG5, the chapter's first example.
func TestFirstExample(t *testing.T) {
	holdParse(t, "w real 3\nb/c complex 2", example()...)
	holdParse(t, exampleText, example()...)
	holdCheck(t, example(), api.OK)
	holdPrint(t, example(), exampleText)
	if n := Total(example()); n != 7 {
		t.Errorf("the total is %d", n)
	}
	holdFind(t, example(), "b/c", 1, true)
	if !Fits(example(), [][]api.F{{1, 2, 3}, {1, 2, 3, 4}}) {
		t.Error("its vectors do not fit")
	}
}

// TestSecondExample: SG2, the chapter's second example.
func TestSecondExample(t *testing.T) {
	holdRefused(t, "w real 03", api.ErrLine, 1)
	holdRefused(t, "w real 3\nw real 3", api.ErrTwice, 0)
	holdRefused(t, "w real 4097", api.ErrLine, 1)
	holdRefused(t, "w real 3 ", api.ErrLine, 1)
}

// TestThirdExample: SG1, the chapter's third example.
func TestThirdExample(t *testing.T) {
	all := several(17, kindReal, 4096)
	holdCheck(t, all, api.ErrTotal)
	if n := Total(all); n != 69632 {
		t.Errorf("the total is %d", n)
	}
}
