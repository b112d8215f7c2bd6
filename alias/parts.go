package alias

import (
	"lathe/api"
	"lathe/float"
)

// parts are what an expansion is made of: a node for each argument of the row, without a Key, and the place of the alias's
// call, at which all stands that is made. Each of the nodes goes into the expansion once at most, for it is not copied.
type parts struct {
	node map[string]api.Node
	at   int
}

// call is a call of those arguments. It keeps their list: one that is handed in whole must be new.
func (p parts) call(name string, args ...api.Node) api.Node {
	return api.Node{Kind: api.NodeCall, Name: name, Args: args, At: p.at}
}

func (p parts) chain(transforms ...api.Node) api.Node { return p.call("chain", transforms...) }

// of is a call of the nodes for the arguments with those names.
func (p parts) of(name string, arguments ...string) api.Node {
	var args []api.Node
	for _, a := range arguments {
		args = append(args, p.node[a])
	}
	return p.call(name, args...)
}

func (p parts) number(num api.F) api.Node {
	return api.Node{Kind: api.NodeNumber, Num: num, At: p.at}
}

func (p parts) name(name string) api.Node {
	return api.Node{Kind: api.NodeName, Name: name, At: p.at}
}

// rated is what scale_by_learning_rate becomes.
func (p parts) rated() api.Node {
	given := p.node[rate]
	switch given.Kind {
	case api.NodeNumber:
		return p.call("scale", negative(given.Num, given.At))
	case api.NodeWhole:
		return p.call("scale", negative(float.FromInt(given.Int), given.At))
	}
	return p.chain(p.call("scale_by_schedule", given), p.call("scale", p.number(minusOne)))
}

func negative(num api.F, at int) api.Node {
	return api.Node{Kind: api.NodeNumber, Num: float.Neg(num), At: at}
}

// decayed is the weights' decay of the parameters that the mask means.
func (p parts) decayed() api.Node {
	return p.call("masked", p.node["mask"], p.of("add_decayed_weights", "weight_decay"))
}
