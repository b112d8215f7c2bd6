package alias

import (
	"math"
	"strings"
	"sync"

	"lathe/api"
	"lathe/tree"
)

// theTable is the chapter's, but that it has LR(rate) for what scale_by_learning_rate becomes.
const theTable = `scale_by_learning_rate | rate | LR(rate)
sgd | rate, momentum = 0.0, nesterov = false | chain(trace(momentum, nesterov), LR(rate))
adam | rate, b1 = 0.9, b2 = 0.999, eps = 1e-8, eps_root = 0.0 | chain(scale_by_adam(b1, b2, eps, eps_root), LR(rate))
adamw | rate, b1 = 0.9, b2 = 0.999, eps = 1e-8, eps_root = 0.0, weight_decay = 1e-4, mask = all() | chain(scale_by_adam(b1, b2, eps, eps_root), masked(mask, add_decayed_weights(weight_decay)), LR(rate))
amsgrad | rate, b1 = 0.9, b2 = 0.999, eps = 1e-8, eps_root = 0.0 | chain(scale_by_amsgrad(b1, b2, eps, eps_root), LR(rate))
adabelief | rate, b1 = 0.9, b2 = 0.999, eps = 1e-16, eps_root = 1e-16 | chain(scale_by_belief(b1, b2, eps, eps_root), LR(rate))
yogi | rate, b1 = 0.9, b2 = 0.999, eps = 1e-3, initial = 1e-6 | chain(scale_by_yogi(b1, b2, eps, initial), LR(rate))
adadelta | rate, rho = 0.9, eps = 1e-6 | chain(scale_by_adadelta(rho, eps), LR(rate))
adamax | rate, b1 = 0.9, b2 = 0.999, eps = 1e-8 | chain(scale_by_adamax(b1, b2, eps), LR(rate))
novograd | rate, b1 = 0.9, b2 = 0.25, eps = 1e-6, eps_root = 0.0, weight_decay = 0.0 | chain(scale_by_novograd(b1, b2, eps, eps_root, weight_decay), LR(rate))
optimistic | rate, alpha = 1.0, beta = 1.0 | chain(scale_by_optimistic_gradient(alpha, beta), LR(rate))
agc | rate, clipping = 0.1, eps = 1e-3, momentum = 0.0, nesterov = false | chain(adaptive_grad_clip(clipping, eps), trace(momentum, nesterov), LR(rate))
adagrad | rate, initial = 0.1, eps = 1e-7 | chain(scale_by_rss(initial, eps), LR(rate))
rmsprop | rate, decay = 0.9, eps = 1e-8, initial = 0.0, momentum = 0.0 | chain(scale_by_rms(decay, eps, initial), LR(rate), trace(momentum, false))
lion | rate, b1 = 0.9, b2 = 0.99, weight_decay = 1e-3, mask = all() | chain(scale_by_lion(b1, b2), masked(mask, add_decayed_weights(weight_decay)), LR(rate))
lamb | rate, b1 = 0.9, b2 = 0.999, eps = 1e-6, eps_root = 0.0, weight_decay = 0.0, mask = all() | chain(scale_by_adam(b1, b2, eps, eps_root), masked(mask, add_decayed_weights(weight_decay)), scale_by_trust_ratio(0.0, 1.0, 0.0), LR(rate))
lars | rate, weight_decay = 0.0, trust_coefficient = 1e-3, eps = 0.0, momentum = 0.9, nesterov = false | chain(add_decayed_weights(weight_decay), scale_by_trust_ratio(0.0, trust_coefficient, eps), LR(rate), trace(momentum, nesterov))`

// A line is one of the chapter's table.
type line struct {
	names   []string
	values  map[string]api.Node // of those that may be left out
	becomes api.Node            // with a name for each argument
}

// lines are those of the table, by the aliases.
var lines = sync.OnceValue(func() map[string]line {
	all := map[string]line{}
	for row := range strings.SplitSeq(theTable, "\n") {
		column := strings.Split(row, " | ")
		one := line{values: map[string]api.Node{}, becomes: read(strings.ReplaceAll(column[2], "LR(", "lr("))}
		for arg := range strings.SplitSeq(column[1], ", ") {
			name, value, ok := strings.Cut(arg, " = ")
			one.names = append(one.names, name)
			if ok {
				one.values[name] = read("f(" + value + ")").Args[0]
			}
		}
		all[column[0]] = one
	}
	return all
})

// told is Expand by the chapter's words.
func told(n api.Node) (api.Node, api.Errno, int) {
	if e := tree.Check(n); e != api.OK {
		return api.Node{}, e, n.At
	}
	out := written(n)
	switch {
	case out.depth > maxDepth:
		return api.Node{}, errDeep, n.At
	case out.count > maxNodes:
		return api.Node{}, errMany, n.At
	}
	for _, m := range inOrder(out.tree) {
		if l, ok := lines()[m.Name]; ok && m.Kind == nodeCall {
			if e, at := l.faultOf(m); e != api.OK {
				return api.Node{}, e, at
			}
		}
	}
	last := expansion(out.tree)
	switch all := (meanings{}).of(last); {
	case all.depth > maxDepth:
		return api.Node{}, errDeep, n.At
	case all.count > maxNodes:
		return api.Node{}, errMany, n.At
	}
	return last, api.OK, 0
}

// A meaning is a node, written out, with its size. Where it has too many nodes, the tree is less than all of it.
type meaning struct {
	tree  api.Node
	depth int
	count float64 // far beyond all whole numbers, if lets double it
}

// meanings are those of the names that lets have given so far.
type meanings map[string]meaning

// written is a tree's program with the lets' values in the place of their names: let by let, each value by those ahead of it.
func written(n api.Node) meaning {
	so := meanings{}
	for n.Kind == nodeLet {
		so[n.Name] = so.of(n.Args[0])
		n = n.Args[1]
	}
	return so.of(n)
}

// of is what a node is, written out.
func (m meanings) of(n api.Node) meaning {
	if means, ok := m[n.Name]; ok && n.Kind == nodeName {
		means.tree = keyed(n.Key, level(n.At, means.tree))
		return means
	}
	out := meaning{tree: n, depth: 1, count: 1}
	out.tree.Args = nil
	for _, a := range n.Args {
		one := m.of(a)
		out.depth = max(out.depth, one.depth+1)
		out.count += one.count
		if out.count <= maxNodes {
			out.tree.Args = append(out.tree.Args, one.tree)
		}
	}
	return out
}

// inOrder are the nodes in the order of chapter 7.
func inOrder(n api.Node) []api.Node {
	all := []api.Node{n}
	for _, a := range n.Args {
		all = append(all, inOrder(a)...)
	}
	return all
}

// given are the nodes that are given for the arguments; the fault of one that can't be given, and its place.
func (l line) given(n api.Node) (map[string]api.Node, api.Errno, int) {
	all, hadKey := map[string]api.Node{}, false
	for _, a := range n.Args {
		_, before := all[a.Key]
		switch {
		case a.Key != "" && !strings.Contains(" "+strings.Join(l.names, " ")+" ", " "+a.Key+" "), a.Key != "" && before, a.Key == "" && hadKey:
			return nil, errKey, a.At
		case a.Key != "":
			hadKey = true
			all[a.Key] = keyed("", a)
		case len(all) == len(l.names):
			return nil, errArity, a.At
		default:
			all[l.names[len(all)]] = a
		}
	}
	return all, api.OK, 0
}

func (l line) faultOf(n api.Node) (api.Errno, int) {
	all, e, at := l.given(n)
	if _, ok := all["rate"]; e == api.OK && !ok {
		return errArity, n.At
	}
	return e, at
}

// expansion is a tree without faults in which the aliases are replaced, the outer ones first.
func expansion(n api.Node) api.Node {
	l, ok := lines()[n.Name]
	if !ok || n.Kind != nodeCall {
		out := n
		out.Args = nil
		for _, a := range n.Args {
			out.Args = append(out.Args, expansion(a))
		}
		return out
	}
	all, _, _ := l.given(n)
	for name, value := range l.values {
		if _, ok := all[name]; !ok {
			all[name] = placed(n.At, value)
		}
	}
	return keyed(n.Key, filled(l.becomes, all, n.At))
}

// filled is a pattern with the nodes in the places of their names, all else at one place.
func filled(pattern api.Node, nodes map[string]api.Node, at int) api.Node {
	if n, ok := nodes[pattern.Name]; ok && pattern.Kind == nodeName {
		return expansion(n)
	}
	if pattern.Kind == nodeCall && pattern.Name == "lr" {
		switch rate := nodes["rate"]; rate.Kind {
		case nodeNumber:
			return placed(at, call("scale", placed(rate.At, num(rate.Num^1<<31))))
		case nodeWhole:
			return placed(at, call("scale", placed(rate.At, num(api.F(math.Float32bits(float32(rate.Int))^1<<31)))))
		}
		return filled(read("chain(scale_by_schedule(rate), scale(-1.0))"), nodes, at)
	}
	out := placed(at, pattern)
	out.Args = nil
	for _, a := range pattern.Args {
		out.Args = append(out.Args, filled(a, nodes, at))
	}
	return out
}
