package check

import (
	"slices"
	"strconv"

	"lathe/api"
	"lathe/decimal"
)

// give are the nodes for the row's arguments, in the row's order.
func (r *row) give(n *api.Node) ([]*api.Node, fault) {
	if r.isOpen() {
		return r.giveInTurns(n)
	}
	given := make([]*api.Node, len(r.takes))
	for i := range n.Args {
		arg := &n.Args[i]
		place, e := r.place(arg.Key, n.Args[:i])
		if e == api.OK && given[place] != nil {
			e = api.ErrKey
		}
		if e != api.OK {
			return nil, faultAt(e, arg)
		}
		given[place] = arg
	}
	for i := range given {
		if given[i] != nil {
			continue
		}
		if r.takes[i].value == needed {
			return nil, faultAt(api.ErrArity, n)
		}
		given[i] = r.takes[i].leftOut()
	}
	return given, fault{}
}

// place is that of the row's argument for which one with that Key is given behind those ahead of it.
func (r *row) place(key string, ahead []api.Node) (int, api.Errno) {
	if key != "" {
		place := slices.IndexFunc(r.takes, func(a argument) bool { return a.name == key })
		if place < 0 {
			return 0, api.ErrKey
		}
		return place, api.OK
	}
	if slices.ContainsFunc(ahead, hasKey) {
		return 0, api.ErrKey
	}
	if len(ahead) >= len(r.takes) {
		return 0, api.ErrArity
	}
	return len(ahead), api.OK
}

func hasKey(n api.Node) bool { return n.Key != "" }

// giveInTurns are the nodes for a row with '..', in which no argument has a name.
func (r *row) giveInTurns(n *api.Node) ([]*api.Node, fault) {
	var given []*api.Node
	for i := range n.Args {
		if hasKey(n.Args[i]) {
			return nil, faultAt(api.ErrKey, &n.Args[i])
		}
		given = append(given, &n.Args[i])
	}
	if !r.canHave(len(given)) {
		return nil, faultAt(api.ErrArity, n)
	}
	return given, fault{}
}

// leftOut is the node that stands for an argument that is not given.
func (a *argument) leftOut() *api.Node {
	switch a.sort {
	case sortNum:
		x, _ := decimal.Parse(a.value)
		return &api.Node{Kind: api.NodeNumber, Num: x}
	case sortWhole:
		x, _ := strconv.Atoi(a.value)
		return &api.Node{Kind: api.NodeWhole, Int: x}
	}
	return &api.Node{Kind: api.NodeName, Name: a.value}
}
