package print

import (
	"strconv"
	"strings"

	"lathe/api"
	"lathe/decimal"
)

// A piece is a node with its text. It is made once, for a layout asks at each depth anew how long the text is.
type piece struct {
	kind int
	text string // the whole node
	head string // of a call and of a let: what stands ahead of the arguments, and ends a line where these have lines of their own
	args []piece
}

// pieceOf is the piece of a node that tree.Check takes.
func pieceOf(n api.Node) piece {
	switch n.Kind {
	case api.NodeCall:
		return callOf(n)
	case api.NodeLet:
		return letOf(n)
	}
	return piece{kind: n.Kind, text: keyOf(n) + valueOf(n)}
}

func callOf(n api.Node) piece {
	p := piece{kind: n.Kind, head: keyOf(n) + n.Name + "("}
	texts := make([]string, len(n.Args))
	for i, a := range n.Args {
		arg := pieceOf(a)
		p.args = append(p.args, arg)
		texts[i] = arg.text
	}
	p.text = p.head + strings.Join(texts, ", ") + ")"
	return p
}

func letOf(n api.Node) piece {
	value, rest := pieceOf(n.Args[0]), pieceOf(n.Args[1])
	head := "let " + n.Name + " ="
	return piece{kind: n.Kind, text: head + " " + value.text + "; " + rest.text, head: head, args: []piece{value, rest}}
}

// keyOf is what stands ahead of a node that is named by its Key.
func keyOf(n api.Node) string {
	if n.Key == "" {
		return ""
	}
	return n.Key + "="
}

// valueOf is the text of a node without arguments. That a number is finite, tree.Check has asked.
func valueOf(n api.Node) string {
	switch n.Kind {
	case api.NodeNumber:
		text, _ := decimal.Shortest(n.Num)
		return text
	case api.NodeWhole:
		return strconv.Itoa(n.Int)
	case api.NodeText:
		return `"` + n.Name + `"`
	}
	return n.Name
}
