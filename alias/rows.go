package alias

import (
	"maps"

	"lathe/api"
)

// Numbers of the rows, as the document has their patterns.
const (
	minusOne   api.F = 0xbf800000
	tenth      api.F = 0x3dcccccd // 0.1
	quarter    api.F = 0x3e800000 // 0.25
	oneNine    api.F = 0x3f666666 // 0.9
	twoNines   api.F = 0x3f7d70a4 // 0.99
	threeNines api.F = 0x3f7fbe77 // 0.999
	minus3     api.F = 0x3a83126f // 1e-3, and so on
	minus4     api.F = 0x38d1b717
	minus6     api.F = 0x358637bd
	minus7     api.F = 0x33d6bf95
	minus8     api.F = 0x322bcc77
	minus16    api.F = 0x24e69595
)

// rows are all aliases.
func rows() table {
	all := plainRows()
	maps.Copy(all, otherRows())
	return all
}

// takes are a row's arguments: the rate, ahead of those that can be left out.
func takes(others ...argument) []argument {
	return append([]argument{{name: rate}}, others...)
}

// number is an argument that is a number where it is left out.
func number(name string, num api.F) argument {
	return argument{name, api.Node{Kind: api.NodeNumber, Num: num}}
}

func nesterov() argument {
	return argument{"nesterov", api.Node{Kind: api.NodeName, Name: "false"}}
}

func mask() argument {
	return argument{"mask", api.Node{Kind: api.NodeCall, Name: "all"}}
}

// scaled is what becomes of a row by one transform, ahead of the rate alone.
func scaled(by string, arguments ...string) func(parts) api.Node {
	return func(p parts) api.Node { return p.chain(p.of(by, arguments...), p.rated()) }
}

// plainRows are the aliases of one transform each.
func plainRows() table {
	return table{
		"sgd": {
			takes(number("momentum", api.Zero), nesterov()),
			scaled("trace", "momentum", "nesterov"),
		},
		"adam": {
			takes(number("b1", oneNine), number("b2", threeNines), number("eps", minus8), number("eps_root", api.Zero)),
			scaled("scale_by_adam", "b1", "b2", "eps", "eps_root"),
		},
		"amsgrad": {
			takes(number("b1", oneNine), number("b2", threeNines), number("eps", minus8), number("eps_root", api.Zero)),
			scaled("scale_by_amsgrad", "b1", "b2", "eps", "eps_root"),
		},
		"adabelief": {
			takes(number("b1", oneNine), number("b2", threeNines), number("eps", minus16), number("eps_root", minus16)),
			scaled("scale_by_belief", "b1", "b2", "eps", "eps_root"),
		},
		"yogi": {
			takes(number("b1", oneNine), number("b2", threeNines), number("eps", minus3), number("initial", minus6)),
			scaled("scale_by_yogi", "b1", "b2", "eps", "initial"),
		},
		"adadelta": {
			takes(number("rho", oneNine), number("eps", minus6)),
			scaled("scale_by_adadelta", "rho", "eps"),
		},
		"adamax": {
			takes(number("b1", oneNine), number("b2", threeNines), number("eps", minus8)),
			scaled("scale_by_adamax", "b1", "b2", "eps"),
		},
		"novograd": {
			takes(number("b1", oneNine), number("b2", quarter), number("eps", minus6), number("eps_root", api.Zero), number("weight_decay", api.Zero)),
			scaled("scale_by_novograd", "b1", "b2", "eps", "eps_root", "weight_decay"),
		},
		"optimistic": {
			takes(number("alpha", api.One), number("beta", api.One)),
			scaled("scale_by_optimistic_gradient", "alpha", "beta"),
		},
		"adagrad": {
			takes(number("initial", tenth), number("eps", minus7)),
			scaled("scale_by_rss", "initial", "eps"),
		},
	}
}

// otherRows are the aliases of the rate alone, and of several transforms.
func otherRows() table {
	return table{
		"scale_by_learning_rate": {takes(), func(p parts) api.Node { return p.rated() }},
		"adamw": {
			takes(number("b1", oneNine), number("b2", threeNines), number("eps", minus8), number("eps_root", api.Zero), number("weight_decay", minus4), mask()),
			func(p parts) api.Node {
				return p.chain(p.of("scale_by_adam", "b1", "b2", "eps", "eps_root"), p.decayed(), p.rated())
			},
		},
		"agc": {
			takes(number("clipping", tenth), number("eps", minus3), number("momentum", api.Zero), nesterov()),
			func(p parts) api.Node {
				return p.chain(p.of("adaptive_grad_clip", "clipping", "eps"), p.of("trace", "momentum", "nesterov"), p.rated())
			},
		},
		"rmsprop": {
			takes(number("decay", oneNine), number("eps", minus8), number("initial", api.Zero), number("momentum", api.Zero)),
			func(p parts) api.Node {
				trace := p.call("trace", p.node["momentum"], p.name("false"))
				return p.chain(p.of("scale_by_rms", "decay", "eps", "initial"), p.rated(), trace)
			},
		},
		"lion": {
			takes(number("b1", oneNine), number("b2", twoNines), number("weight_decay", minus3), mask()),
			func(p parts) api.Node {
				return p.chain(p.of("scale_by_lion", "b1", "b2"), p.decayed(), p.rated())
			},
		},
		"lamb": {
			takes(number("b1", oneNine), number("b2", threeNines), number("eps", minus6), number("eps_root", api.Zero), number("weight_decay", api.Zero), mask()),
			func(p parts) api.Node {
				trust := p.call("scale_by_trust_ratio", p.number(api.Zero), p.number(api.One), p.number(api.Zero))
				return p.chain(p.of("scale_by_adam", "b1", "b2", "eps", "eps_root"), p.decayed(), trust, p.rated())
			},
		},
		"lars": {
			takes(number("weight_decay", api.Zero), number("trust_coefficient", minus3), number("eps", api.Zero), number("momentum", oneNine), nesterov()),
			func(p parts) api.Node {
				trust := p.call("scale_by_trust_ratio", p.number(api.Zero), p.node["trust_coefficient"], p.node["eps"])
				return p.chain(p.of("add_decayed_weights", "weight_decay"), trust, p.rated(), p.of("trace", "momentum", "nesterov"))
			},
		},
	}
}
