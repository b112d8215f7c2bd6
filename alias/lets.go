package alias

import (
	"strings"

	"lathe/api"
)

// A let is one of those at a tree's root: its name, its value, and how great that is when it is written out.
type let struct {
	name  string
	value *api.Node
	size  size
}

// A size is that of a tree. Nodes are counted no further than to one more than there may be: lets can double what they mean
// time and again.
type size struct {
	nodes, depth int
}

// A scope is the lets that a name can mean, as they stand.
type scope []let

// open is the scope of a tree's program, and the program.
func open(n *api.Node) (scope, *api.Node) {
	var s scope
	for n.Kind == api.NodeLet {
		value := &n.Args[0]
		s = append(s, let{n.Name, value, s.measure(value)})
		n = &n.Args[1]
	}
	return s, n
}

// writeOut is the program of a tree, written out in memory of its own, or the error of one that would be too great: that is
// reckoned ahead of making it.
func writeOut(n *api.Node) (api.Node, api.Errno) {
	s, program := open(n)
	all := s.measure(program)
	switch {
	case all.depth > api.MaxDepth:
		return api.Node{}, api.ErrDeep
	case all.nodes > api.MaxNodes:
		return api.Node{}, api.ErrMany
	}
	return s.write(program), api.OK
}

// meant is the place of the let that a node means: the last one of that name.
func (s scope) meant(n *api.Node) (int, bool) {
	if n.Kind != api.NodeName {
		return 0, false
	}
	for i := len(s) - 1; i >= 0; i-- {
		if s[i].name == n.Name {
			return i, true
		}
	}
	return 0, false
}

// measure is how great a node is when it is written out.
func (s scope) measure(n *api.Node) size {
	if i, ok := s.meant(n); ok {
		return s[i].size
	}
	all := size{nodes: 1, depth: 1}
	for i := range n.Args {
		one := s.measure(&n.Args[i])
		all.nodes = min(all.nodes+one.nodes, api.MaxNodes+1)
		all.depth = max(all.depth, one.depth+1)
	}
	return all
}

// write is a node, written out. The lets that a let's value can mean are those ahead of it.
func (s scope) write(n *api.Node) api.Node {
	if i, ok := s.meant(n); ok {
		out := s[:i].write(s[i].value)
		place(&out, n.At)
		out.Key = strings.Clone(n.Key)
		return out
	}
	out := *n
	out.Name, out.Key, out.Args = strings.Clone(n.Name), strings.Clone(n.Key), nil
	for i := range n.Args {
		out.Args = append(out.Args, s.write(&n.Args[i]))
	}
	return out
}

// place puts all nodes of a tree at one place.
func place(n *api.Node, at int) {
	n.At = at
	for i := range n.Args {
		place(&n.Args[i], at)
	}
}
