package print

import (
	"math"
	"strconv"
	"strings"

	"lathe/api"
)

// told is a node's text by the chapter's words.
func told(n api.Node) string {
	key := keyText(n)
	switch n.Kind {
	case 1:
		var texts []string
		for _, a := range n.Args {
			texts = append(texts, told(a))
		}
		return key + n.Name + "(" + strings.Join(texts, ", ") + ")"
	case 2:
		return key + spelt(n.Num)
	case 3:
		return key + strconv.FormatInt(int64(n.Int), 10)
	case 4:
		return key + n.Name
	case 5:
		return key + "\x22" + n.Name + "\x22"
	}
	return "let " + n.Name + " = " + told(n.Args[0]) + "; " + told(n.Args[1])
}

// keyText is a node's Key and `=`, if it has one.
func keyText(n api.Node) string {
	if n.Key == "" {
		return ""
	}
	return n.Key + "="
}

// spelt is a number's shortest text by rule D3, made of the library's.
func spelt(a api.F) string {
	value := float64(math.Float32frombits(uint32(a)))
	mantissa, exponent, _ := strings.Cut(strconv.FormatFloat(value, 'e', -1, 32), "e")
	p, _ := strconv.Atoi(exponent)
	if p++; p < -3 || p > 9 {
		return mantissa + "e" + strconv.Itoa(p-1)
	}
	text := strconv.FormatFloat(value, 'f', -1, 32)
	if !strings.Contains(text, ".") {
		text += ".0"
	}
	return text
}

// laid are a tree's lines by the chapter's words, all lines of the layout at an indent, with z behind.
func laid(n api.Node, width, indent int, z string) []string {
	if n.Kind == 6 {
		head, value, rest := "let "+n.Name+" =", n.Args[0], laid(n.Args[1], width, 0, "")
		if one := head + " " + told(value) + ";"; len(one) <= width {
			return append([]string{one}, rest...)
		}
		return append(append([]string{head}, laid(value, width, 2, ";")...), rest...)
	}
	blanks := ""
	for len(blanks) < indent {
		blanks += " "
	}
	if one := blanks + told(n) + z; len(one) <= width || n.Kind != 1 || len(n.Args) == 0 {
		return []string{one}
	}
	lines := []string{blanks + keyText(n) + n.Name + "("}
	for i, a := range n.Args {
		comma := ","
		if i == len(n.Args)-1 {
			comma = ""
		}
		lines = append(lines, laid(a, width, indent+2, comma)...)
	}
	return append(lines, blanks+")"+z)
}
