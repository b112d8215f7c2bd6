package print

import (
	"strings"

	"lathe/api"
)

// A layout is a tree's lines, as far as they are written.
type layout struct {
	lines strings.Builder
	width int
}

// step is how much further in a node's arguments stand on lines of their own.
const step = 2

// program lays a root, or a let's rest.
func (l *layout) program(p piece) {
	if p.kind == api.NodeLet {
		l.let(p)
		return
	}
	l.node(p, 0, "")
}

func (l *layout) let(p piece) {
	value, rest := p.args[0], p.args[1]
	if l.fits(len(p.head) + len(" ") + len(value.text) + len(";")) {
		l.line(0, p.head, " ", value.text, ";")
	} else {
		l.line(0, p.head)
		l.node(value, step, ";")
	}
	l.program(rest)
}

// node lays any node but a let, with what must stand behind it.
func (l *layout) node(p piece, indent int, behind string) {
	if len(p.args) == 0 || l.fits(indent+len(p.text)+len(behind)) {
		l.line(indent, p.text, behind)
		return
	}
	l.line(indent, p.head)
	last := len(p.args) - 1
	for _, a := range p.args[:last] {
		l.node(a, indent+step, ",")
	}
	l.node(p.args[last], indent+step, "")
	l.line(indent, ")", behind)
}

func (l *layout) fits(length int) bool { return length <= l.width }

func (l *layout) line(indent int, parts ...string) {
	l.lines.WriteString(strings.Repeat(" ", indent))
	for _, part := range parts {
		l.lines.WriteString(part)
	}
	l.lines.WriteByte('\n')
}
