package sign

import (
	"strconv"
	"strings"

	"lathe/api"
)

// The words for the kinds.
const (
	wordReal    = "real"
	wordComplex = "complex"
)

// Parse reads a signature's text; the line of an error.
func Parse(text string) ([]api.Param, api.Errno, int) {
	if len(text) > api.MaxSource {
		return nil, api.ErrLong, 0
	}
	var list []api.Param
	for i, line := range strings.Split(text, "\n") {
		if line == "" || line[0] == '#' {
			continue
		}
		p := read(line)
		if mayNotBe(p) {
			return nil, api.ErrLine, i + 1
		}
		list = append(list, p)
	}
	if e := Check(list); e != api.OK {
		return nil, e, 0
	}
	return list, api.OK, 0
}

// read is a line's parameter; of a line that has not its form one that may not be.
func read(line string) api.Param {
	name, rest, _ := strings.Cut(line, " ")
	word, digits, _ := strings.Cut(rest, " ")
	// The name is memory of its own: a piece of the text would share the caller's.
	return api.Param{Name: strings.Clone(name), Kind: kindOf(word), Len: lenOf(digits)}
}

// kindOf is the kind of a word, or 0, which is none.
func kindOf(word string) int {
	switch word {
	case wordReal:
		return api.KindReal
	case wordComplex:
		return api.KindComplex
	}
	return 0
}

// lenOf is the number that is written as Print would write it, or 0, which no Len is.
func lenOf(digits string) int {
	n, err := strconv.Atoi(digits)
	// Atoi takes a plus and needless noughts too.
	if err != nil || strconv.Itoa(n) != digits {
		return 0
	}
	return n
}

// Print writes a signature's text.
func Print(list []api.Param) (string, api.Errno) {
	if e := Check(list); e != api.OK {
		return "", e
	}
	var text strings.Builder
	for _, p := range list {
		text.WriteString(p.Name + " " + wordOf(p.Kind) + " " + strconv.Itoa(p.Len) + "\n")
	}
	return text.String(), api.OK
}

// wordOf is the word for a kind that may be.
func wordOf(kind int) string {
	if kind == api.KindComplex {
		return wordComplex
	}
	return wordReal
}
