package check

import (
	"math"
	"slices"

	"lathe/alias"
	"lathe/api"
	"lathe/mask"
	"lathe/sign"
	"lathe/tree"
)

// A wrong is what the words of the chapter give up with.
type wrong struct {
	e  api.Errno
	at int
}

func need(ok bool, e api.Errno, n api.Node) {
	if !ok {
		panic(wrong{e, n.At})
	}
}

// told is Check by the chapter's words.
func told(n api.Node, list []api.Param) (t api.Tx, e api.Errno, at int) {
	defer func() {
		switch w := recover().(type) {
		case nil:
		case wrong:
			t, e, at = api.Tx{}, w.e, w.at
		default:
			panic(w)
		}
	}()
	if e := sign.Check(list); e != api.OK {
		return api.Tx{}, e, 0
	}
	if e := tree.Check(n); e != api.OK {
		return api.Tx{}, e, n.At
	}
	plain, e, at := alias.Expand(n)
	if e != api.OK {
		return api.Tx{}, e, at
	}
	scene := scene{list: list, active: map[int]bool{}}
	for i := range list {
		scene.active[i] = true
	}
	return scene.transform(plain), api.OK, 0
}

// A scene is where a transform stands.
type scene struct {
	list   []api.Param
	active map[int]bool
	split  bool
}

func (c scene) seesComplex() bool {
	for i, p := range c.list {
		if p.Kind == 2 && c.active[i] && !c.split {
			return true
		}
	}
	return false
}

// among is the scene of an inner transform: of the active parameters those that its mask means (none: all), and none of those of the masks
// ahead of it.
func (c scene) among(mask []int, hasMask bool, ahead [][]int) scene {
	active := map[int]bool{}
	for i := range c.list {
		taken := slices.ContainsFunc(ahead, func(m []int) bool { return slices.Contains(m, i) })
		active[i] = c.active[i] && !taken && (!hasMask || slices.Contains(mask, i))
	}
	c.active = active
	return c
}

// kid is the scene of one of a transform's kids.
func (c scene) kid(op int, masks [][]int, i int) scene {
	c.split = c.split || op == 28
	switch {
	case op == 24:
		return c.among(masks[0], true, nil)
	case op == 25 && i < len(masks):
		return c.among(masks[i], true, masks[:i])
	case op == 25:
		return c.among(nil, false, masks)
	}
	return c
}

func (c scene) transform(n api.Node) api.Tx {
	need(n.Kind == nodeCall, errType, n)
	s, ok := specOf(theTransforms(), n.Name)
	need(ok, errName, n)
	t := api.Tx{Op: s.op}
	slots, nodes := s.given(n)
	for i, a := range nodes {
		switch slots[i].sort {
		case "mask":
			need(a.Kind == nodeText || a.Kind == nodeCall, errType, a)
			m, e, at := mask.Set(a, c.list)
			need(e == api.OK, e, placed(at, a))
			t.Masks = append(t.Masks, m)
		case "schedule":
			t.Sched = scheduleOf(a)
		case "transform":
			t.Kids = append(t.Kids, c.kid(s.op, t.Masks, len(t.Kids)).transform(a))
		default:
			t.Nums, t.Ints = slots[i].value1(a, t.Nums, t.Ints)
		}
	}
	need(!s.star || !c.seesComplex(), errComplex, n)
	return t
}

// value1 are the lists with what one node means behind it.
func (s slot) value1(n api.Node, nums []api.F, ints []int) ([]api.F, []int) {
	switch {
	case s.sort == "num" && (n.Kind == nodeNumber || n.Kind == nodeWhole):
		need(s.holds(numOf(n)), errValue, n)
		return append(nums, numOf(n)), ints
	case s.sort == "whole" && n.Kind == nodeWhole:
		need(s.holdsWhole(n.Int, ints), errValue, n)
		return nums, append(ints, n.Int)
	case s.sort == "flag" && n.Kind == nodeName && (n.Name == "true" || n.Name == "false"):
		return nums, append(ints, map[string]int{"true": 1}[n.Name])
	}
	panic(wrong{errType, n.At})
}

func numOf(n api.Node) api.F {
	if n.Kind == nodeNumber {
		return n.Num
	}
	return api.F(math.Float32bits(float32(n.Int)))
}

func scheduleOf(n api.Node) api.Sched {
	if n.Kind == nodeNumber || n.Kind == nodeWhole {
		return api.Sched{Op: 1, Nums: []api.F{numOf(n)}}
	}
	need(n.Kind == nodeCall, errType, n)
	s, ok := specOf(theSchedules(), n.Name)
	need(ok, errName, n)
	out := api.Sched{Op: s.op}
	slots, nodes := s.given(n)
	for i, a := range nodes {
		if slots[i].sort == "schedule" {
			out.Kids = append(out.Kids, scheduleOf(a))
		} else {
			out.Nums, out.Ints = slots[i].value1(a, out.Nums, out.Ints)
		}
	}
	switch n.Name {
	case "linear":
		out.Ints = slices.Insert(out.Ints, 0, 1)
	case "warmup":
		up := api.Sched{Op: 2, Nums: []api.F{0, out.Nums[0]}, Ints: []int{1, out.Ints[0], 0}}
		out = api.Sched{Op: 6, Ints: out.Ints, Kids: []api.Sched{up, out.Kids[0]}}
	}
	return out
}

// given are the row's arguments, and the nodes for them.
func (s spec) given(n api.Node) ([]slot, []api.Node) {
	if len(s.more) > 0 {
		for _, a := range n.Args {
			need(a.Key == "", errKey, a)
		}
		slots, ok := s.slots(len(n.Args))
		need(ok, errArity, n)
		return slots, n.Args
	}
	got := map[string]api.Node{}
	hadKey := false
	for i, a := range n.Args {
		if a.Key != "" {
			_, before := got[a.Key]
			need(!before && slices.ContainsFunc(s.once, func(o slot) bool { return o.name == a.Key }), errKey, a)
			hadKey = true
			got[a.Key] = a
			continue
		}
		need(!hadKey, errKey, a)
		need(i < len(s.once), errArity, a)
		got[s.once[i].name] = a
	}
	var nodes []api.Node
	for _, o := range s.once {
		a, ok := got[o.name]
		need(ok || o.hasValue, errArity, n)
		if !ok {
			a = o.node()
		}
		nodes = append(nodes, a)
	}
	return s.once, nodes
}
