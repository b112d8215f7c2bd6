package check

import (
	"fmt"
	"slices"

	"lathe/alias"
	"lathe/api"
	"lathe/samples"
)

// A grower makes programs from all over, the same ones in each run.
type grower struct {
	samples.Source
	left int // how many nodes may still be made
}

func (g *grower) upTo(n int) int { return int(g.Next()>>8) % n }

// signature is one of few parameters, real and complex ones.
func (g *grower) signature() []api.Param {
	list := []api.Param{{Name: "w", Kind: 1, Len: 1}}
	for i := range g.upTo(6) {
		list = append(list, api.Param{Name: fmt.Sprint("p", i), Kind: 1 + g.upTo(2), Len: 1 + g.upTo(9)})
	}
	if g.upTo(4) == 0 {
		list = realsOf(list)
	}
	return list
}

// program is one of a tree without lets, mostly without a fault.
func (g *grower) program() api.Node {
	g.left = 5 + g.upTo(80)
	return g.transform(1 + g.upTo(6))
}

func (g *grower) transform(depth int) api.Node {
	g.left--
	if depth > 1 && g.left > 0 && g.upTo(4) > 0 {
		outer := []string{"chain", "masked", "partition", "multi_steps", "apply_if_finite", "split_real_and_imaginary", "skip_large", "until"}
		s, _ := specOf(theTransforms(), outer[g.upTo(len(outer))])
		return g.call(s, depth)
	}
	if g.upTo(12) == 0 {
		return call(alias.Names()[g.upTo(17)], g.value(slot{sort: "schedule"}, depth-1))
	}
	for {
		s := theTransforms()[g.upTo(len(theTransforms()))]
		if len(s.more) == 0 && !slices.ContainsFunc(s.once, func(o slot) bool { return o.sort == "transform" }) && (!s.star || g.upTo(2) == 0) {
			return g.call(s, depth)
		}
	}
}

// call is one of a row: some of the arguments by place, others by name in any order.
func (g *grower) call(s spec, depth int) api.Node {
	n := call(s.name)
	if len(s.more) > 0 {
		slots, _ := s.slots(len(s.once) + len(s.more)*(1+g.upTo(3)) + len(s.last))
		ahead := 0
		for _, o := range slots {
			a := g.value(o, depth-1)
			if o.bounds == "rising" && g.upTo(20) > 0 {
				a = wholeOf(ahead + 1 + g.upTo(3))
				ahead = a.Int
			}
			n.Args = append(n.Args, a)
		}
		return n
	}
	places := g.upTo(len(s.once) + 1)
	for _, o := range s.once[:places] {
		n.Args = append(n.Args, g.value(o, depth-1))
	}
	rest := slices.Clone(s.once[places:])
	for len(rest) > 0 {
		i := g.upTo(len(rest))
		if !rest[i].hasValue || g.upTo(2) == 0 {
			n.Args = append(n.Args, keyed(rest[i].name, g.value(rest[i], depth-1)))
		}
		rest = slices.Delete(rest, i, i+1)
	}
	return n
}

// value is a node for an argument, in its range but for few.
func (g *grower) value(o slot, depth int) api.Node {
	g.left--
	switch o.sort {
	case "num":
		if g.upTo(3) == 0 {
			return wholeOf(g.upTo(3))
		}
		return num([]api.F{0x3f000000, 0x3e800000, 0x3f7fffff, 0x322bcc77, g.Near(api.One, 3), 0x00000001, 0x80000000, 0}[g.upTo(8)])
	case "whole":
		return wholeOf([]int{1, 2, 3, g.UpTo(maxCount), g.upTo(1030), 0, maxCount}[g.upTo(7)])
	case "flag":
		return named([]string{"true", "false"}[g.upTo(2)])
	case "mask":
		return g.mask(1 + g.upTo(3))
	case "schedule":
		return g.schedule(depth)
	}
	return g.transform(depth)
}

func (g *grower) mask(depth int) api.Node {
	g.left--
	if depth > 1 && g.upTo(2) == 0 {
		return call([]string{"not", "and", "or"}[g.upTo(3)], g.mask(depth-1))
	}
	return []api.Node{text("*"), text("w"), text("p0"), text("p1"), call("real"), call("complex"), call("all"), call("none")}[g.upTo(8)]
}

func (g *grower) schedule(depth int) api.Node {
	g.left--
	if depth < 2 || g.left < 0 || g.upTo(3) == 0 {
		return num(g.Near(api.One, 100))
	}
	return g.call(theSchedules()[g.upTo(len(theSchedules()))], depth)
}

// harmed is the tree with one of its nodes changed: mostly a fault.
func (g *grower) harmed(n api.Node) api.Node {
	if len(n.Args) > 0 && g.upTo(4) > 0 {
		i := g.upTo(len(n.Args))
		n.Args = slices.Clone(n.Args)
		n.Args[i] = g.harmed(n.Args[i])
		return n
	}
	n.Args = slices.Clone(n.Args)
	switch g.upTo(12) {
	case 0:
		n.Kind = g.upTo(8)
	case 1:
		n.Name = []string{"foo", "", "A", "sgd", "true", "identity", "constant", "all"}[g.upTo(8)]
	case 2:
		n.Key = ""
	case 3:
		n.Key = []string{"k", "inner", "eps", "steps", "decay"}[g.upTo(5)]
	case 4:
		return nested(1 + g.upTo(80))
	case 5:
		n.Args = append(n.Args, keyed([]string{"", "", "inner", "eps"}[g.upTo(4)], g.anyNode()))
	case 6:
		if len(n.Args) > 0 {
			n.Args = n.Args[1:]
		}
	case 7:
		n.Args = append([]api.Node{g.anyNode()}, n.Args...)
	case 8:
		n.Int, n.Num = -n.Int, n.Num^0x80000000
	case 9:
		for i := range n.Args {
			n.Args[i].Key = ""
		}
	default:
		return keyed(n.Key, g.anyNode())
	}
	return n
}

func (g *grower) anyNode() api.Node {
	all := []api.Node{num(0xbf800000), wholeOf(-1), named("true"), named("foo"), text("w"), text("q"), call("identity"), call("constant", wholeOf(1)), call("all"), call("foo"), call("clip", wholeOf(1)), call("sgd")}
	return all[g.upTo(len(all))]
}

// spoiltTx is a typed program with one of its parts changed: mostly a fault.
func (g *grower) spoiltTx(t api.Tx) api.Tx {
	t = copied(t)
	at := &t
	for len(at.Kids) > 0 && g.upTo(4) > 0 {
		at = &at.Kids[g.upTo(len(at.Kids))]
	}
	if at.Op == 3 && g.upTo(3) > 0 {
		s := &at.Sched
		for len(s.Kids) > 0 && g.upTo(3) > 0 {
			s = &s.Kids[g.upTo(len(s.Kids))]
		}
		s.Op, s.Nums, s.Ints = g.spoiltFields(s.Op, s.Nums, s.Ints, 14)
		return t
	}
	switch g.upTo(6) {
	case 0:
		if len(at.Nums)+len(at.Ints)+len(at.Kids) == 0 {
			at.Op = []int{16, 21}[g.upTo(2)] // with a star
			break
		}
		at.Masks = append(at.Masks, []int{g.upTo(3)})
	case 1:
		for i := range at.Masks {
			at.Masks[i] = append(at.Masks[i], g.upTo(9)-1)
		}
	case 2:
		at.Kids = append(at.Kids, api.Tx{Op: g.upTo(44)})
	case 3:
		at.Kids = at.Kids[:len(at.Kids)/2]
	case 4:
		at.Sched = api.Sched{Op: g.upTo(3), Nums: []api.F{g.Number()}}
	default:
		at.Op, at.Nums, at.Ints = g.spoiltFields(at.Op, at.Nums, at.Ints, 44)
	}
	return t
}

// spoiltFields are an Op and numbers with one of them changed.
func (g *grower) spoiltFields(op int, nums []api.F, ints []int, ops int) (int, []api.F, []int) {
	switch g.upTo(6) {
	case 0:
		return g.upTo(ops), nums, ints
	case 1:
		return op, append(nums, 0x3f000000), ints
	case 2:
		return op, nums, append(ints, g.upTo(3))
	case 3:
		return op, nums[:len(nums)/2], ints[:len(ints)/2]
	case 4:
		if len(nums) > 0 {
			nums[g.upTo(len(nums))] = patterns()[g.upTo(len(patterns()))]
		}
	case 5:
		if len(ints) > 0 {
			ints[g.upTo(len(ints))] = wholes()[g.upTo(len(wholes()))]
		}
	}
	return op, nums, ints
}
