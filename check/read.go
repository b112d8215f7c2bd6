package check

import (
	"strconv"

	"lathe/api"
	"lathe/decimal"
	"lathe/mask"
)

// A fault is an error and the place of the node that is at fault; none, if it is the zero one.
type fault struct {
	e  api.Errno
	at int
}

func faultAt(e api.Errno, n *api.Node) fault { return fault{e, n.At} }

// A reader makes a typed program of a tree that alias.Expand has made.
type reader struct {
	tables
	list []api.Param
}

// transform reads a node as a transform.
func (r *reader) transform(n *api.Node, v view) (api.Tx, fault) {
	w, p, f := r.call(r.transforms, n, v)
	if f.e != api.OK {
		return api.Tx{}, f
	}
	if w.star && v.seesComplex() {
		return api.Tx{}, faultAt(api.ErrComplex, n)
	}
	t := api.Tx{Op: w.op, Nums: p.nums, Ints: p.ints, Masks: p.masks, Kids: p.kids}
	if len(p.scheds) > 0 {
		t.Sched = p.scheds[0]
	}
	return t, fault{}
}

// schedule reads a node as a schedule: a number is a constant one.
func (r *reader) schedule(n *api.Node) (api.Sched, fault) {
	if x, ok := numberOf(n); ok {
		return api.Sched{Op: api.SchedConstant, Nums: []api.F{x}}, fault{}
	}
	w, p, f := r.call(r.schedules, n, view{})
	if f.e != api.OK {
		return api.Sched{}, f
	}
	if w.becomes != nil {
		p = w.becomes(p)
	}
	return api.Sched{Op: w.op, Nums: p.nums, Ints: p.ints, Kids: p.scheds}, fault{}
}

// call reads a node as a call of one of the rows.
func (r *reader) call(rows []row, n *api.Node, v view) (*row, parts, fault) {
	if n.Kind != api.NodeCall {
		return nil, parts{}, faultAt(api.ErrType, n)
	}
	w := byName(rows, n.Name)
	if w == nil {
		return nil, parts{}, faultAt(api.ErrName, n)
	}
	given, f := w.give(n)
	if f.e != api.OK {
		return nil, parts{}, f
	}
	p, rest := parts{}, v.within(w.op)
	for i := range given {
		if f := r.argument(w.argument(i, len(given)), given[i], &rest, &p); f.e != api.OK {
			return nil, parts{}, f
		}
	}
	return w, p, fault{}
}

// argument reads what is given for an argument, behind those that have gone into the parts already; rest is what the kids
// that are yet to come see.
func (r *reader) argument(a *argument, n *api.Node, rest *view, p *parts) fault {
	var f fault
	switch a.sort {
	case sortNum:
		var x api.F
		x, f = a.readNum(n)
		p.nums = append(p.nums, x)
	case sortWhole, sortFlag:
		var x int
		x, f = a.readWhole(n, p.ints)
		p.ints = append(p.ints, x)
	case sortMask:
		var places []int
		places, f = r.mask(n)
		p.masks = append(p.masks, places)
	case sortSchedule:
		var s api.Sched
		s, f = r.schedule(n)
		p.scheds = append(p.scheds, s)
	case sortTransform:
		var t api.Tx
		t, f = r.transform(n, rest.next(p.masks, len(p.kids)))
		p.kids = append(p.kids, t)
	}
	return f
}

// readNum reads a node as a num.
func (a *argument) readNum(n *api.Node) (api.F, fault) {
	x, ok := numberOf(n)
	if !ok {
		return 0, faultAt(api.ErrType, n)
	}
	if !a.num(x) {
		return 0, faultAt(api.ErrValue, n)
	}
	return x, fault{}
}

// numberOf is the number that a node means.
func numberOf(n *api.Node) (api.F, bool) {
	switch n.Kind {
	case api.NodeNumber:
		return n.Num, true
	case api.NodeWhole:
		x, _ := decimal.Parse(strconv.Itoa(n.Int)) // the nearest number is what float.FromInt answers, too
		return x, true
	}
	return 0, false
}

// readWhole reads a node as a whole or a flag, behind those whole numbers of the call.
func (a *argument) readWhole(n *api.Node, ints []int) (int, fault) {
	x, ok := n.Int, n.Kind == api.NodeWhole
	if a.sort == sortFlag {
		x, ok = flagOf(n)
	}
	if !ok {
		return 0, faultAt(api.ErrType, n)
	}
	if !a.whole(x, lastOf(ints)) {
		return 0, faultAt(api.ErrValue, n)
	}
	return x, fault{}
}

// flagOf is the whole number that a node means as a flag.
func flagOf(n *api.Node) (int, bool) {
	switch {
	case n.Kind == api.NodeName && n.Name == "true":
		return 1, true
	case n.Kind == api.NodeName && n.Name == "false":
		return 0, true
	}
	return 0, false
}

// lastOf is the last one of a list, or 0.
func lastOf(ints []int) int {
	if len(ints) == 0 {
		return 0
	}
	return ints[len(ints)-1]
}

// mask reads a node as a mask.
func (r *reader) mask(n *api.Node) ([]int, fault) {
	if n.Kind != api.NodeText && n.Kind != api.NodeCall {
		return nil, faultAt(api.ErrType, n)
	}
	places, e, at := mask.Set(*n, r.list)
	return places, fault{e, at}
}
