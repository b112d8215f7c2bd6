package sign

import (
	"regexp"
	"strconv"
	"strings"

	"lathe/api"
)

// The chapter's words as patterns.
var (
	aName   = regexp.MustCompile(`\A[A-Za-z0-9_./-]+\z`)
	aLine   = regexp.MustCompile(`\A([A-Za-z0-9_./-]+) (real|complex) ([1-9][0-9]*)\z`)
	nothing = regexp.MustCompile(`\A(#.*)?\z`)
)

// counted is Numbers by the chapter's words.
func counted(p api.Param) int {
	if !aName.MatchString(p.Name) || len(p.Name) > maxName || p.Len < 1 || p.Len > maxLen {
		return 0
	}
	return map[int]int{kindReal: 1, kindComplex: 2}[p.Kind] * p.Len
}

// checked is Check by the chapter's words.
func checked(list []api.Param) api.Errno {
	if len(list) > maxParams {
		return api.ErrLong
	}
	for _, p := range list {
		if counted(p) == 0 {
			return api.ErrParam
		}
	}
	sum := 0
	for i, p := range list {
		for _, q := range list[:i] {
			if p.Name == q.Name {
				return api.ErrTwice
			}
		}
		sum += counted(p)
	}
	if sum > maxTotal {
		return api.ErrTotal
	}
	return api.OK
}

// lines are those of a text, without their ends.
func lines(text string) []string {
	var all []string
	for text != "" {
		end := 0
		for end < len(text) && text[end] != 10 {
			end++
		}
		all = append(all, text[:end])
		text = text[min(end+1, len(text)):]
	}
	return all
}

// parsed is Parse by the chapter's words.
func parsed(text string) ([]api.Param, api.Errno, int) {
	if len(text) > maxSource {
		return nil, api.ErrLong, 0
	}
	var list []api.Param
	for i, line := range lines(text) {
		if nothing.MatchString(line) {
			continue
		}
		parts := aLine.FindStringSubmatch(line)
		if parts == nil || len(parts[1]) > maxName || len(parts[3]) > 4 {
			return nil, api.ErrLine, i + 1
		}
		kind := kindReal
		if parts[2] == "complex" {
			kind = kindComplex
		}
		n, _ := strconv.Atoi(parts[3])
		if n > maxLen {
			return nil, api.ErrLine, i + 1
		}
		list = append(list, is(parts[1], kind, n))
	}
	if e := checked(list); e != api.OK {
		return nil, e, 0
	}
	return list, api.OK, 0
}

// told is Print of a list that may be, by the chapter's words.
func told(list []api.Param) string {
	text := ""
	for _, p := range list {
		text += p.Name + []string{"", " real ", " complex "}[p.Kind] + strconv.FormatInt(int64(p.Len), 10) + "\x0a"
	}
	return text
}

// without is the text without the lines that say nothing, and with the end of the last line.
func without(text string) string {
	var b strings.Builder
	for _, line := range lines(text) {
		if line != "" && line[0] != '#' {
			b.WriteString(line + "\x0a")
		}
	}
	return b.String()
}
