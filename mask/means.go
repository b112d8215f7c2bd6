package mask

import "lathe/api"

// means tells whether a mask without a fault means a parameter.
func means(n *api.Node, p *api.Param) bool {
	if n.Kind == api.NodeText {
		return Match(n.Name, p.Name)
	}
	switch n.Name {
	case "all":
		return true
	case "real":
		return p.Kind == api.KindReal
	case "complex":
		return p.Kind == api.KindComplex
	case "not":
		return !means(&n.Args[0], p)
	case "and":
		return allMean(n.Args, p)
	case "or":
		return anyMeans(n.Args, p)
	}
	return false // none
}

func allMean(masks []api.Node, p *api.Param) bool {
	for i := range masks {
		if !means(&masks[i], p) {
			return false
		}
	}
	return true
}

func anyMeans(masks []api.Node, p *api.Param) bool {
	for i := range masks {
		if means(&masks[i], p) {
			return true
		}
	}
	return false
}
