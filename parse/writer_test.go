package parse

import (
	"math"
	"strconv"
	"strings"

	"lathe/api"
	"lathe/tree"
)

// A writer tells trees as texts, with what it likes between two tokens.
type writer struct {
	out  strings.Builder
	gap  func(needed bool) string
	last string
}

// blank is the gap of one blank everywhere.
func blank(bool) string { return " " }

// tight is the least gap.
func tight(needed bool) string {
	if needed {
		return " "
	}
	return ""
}

// put tells a token, and answers its place. Words that follow one another need a gap.
func (w *writer) put(token string) int {
	if w.last != "" {
		w.out.WriteString(w.gap(isWord(w.last) && isWord(token)))
	}
	w.last = token
	w.out.WriteString(token)
	return w.out.Len() - len(token)
}

func isWord(token string) bool {
	return is("NAME", token) || is("NUMBER", token) || is("WHOLE", token)
}

// node tells a tree, and marks each node with its place.
func (w *writer) node(n *api.Node) {
	if n.Key != "" {
		w.put(n.Key)
		w.put("=")
	}
	switch n.Kind {
	case 1:
		n.At = w.put(n.Name)
		w.put("(")
		for i := range n.Args {
			if i > 0 {
				w.put(",")
			}
			w.node(&n.Args[i])
		}
		w.put(")")
	case 2:
		n.At = w.signed(spelt(n.Num))
	case 3:
		n.At = w.signed(strconv.Itoa(n.Int))
	case 4:
		n.At = w.put(n.Name)
	case 5:
		n.At = w.put(`"` + n.Name + `"`)
	case 6:
		n.At = w.put("let")
		w.put(n.Name)
		w.put("=")
		w.node(&n.Args[0])
		w.put(";")
		w.node(&n.Args[1])
	}
}

// signed tells a number, its minus as a token of its own.
func (w *writer) signed(text string) int {
	digits, negative := strings.CutPrefix(text, "-")
	if !negative {
		return w.put(digits)
	}
	at := w.put("-")
	w.put(digits)
	return at
}

// spelt is a number's text, with a point.
func spelt(a api.F) string {
	text := strconv.FormatFloat(float64(math.Float32frombits(uint32(a))), 'f', -1, 32)
	if !strings.Contains(text, ".") {
		text += ".0"
	}
	return text
}

// written is a tree as a text, and the tree with the places that it has there.
func written(n api.Node, gap func(bool) string) (string, api.Node) {
	n = tree.Strip(n)
	w := writer{gap: gap}
	w.node(&n)
	return w.out.String(), n
}
