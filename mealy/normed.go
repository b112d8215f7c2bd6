package mealy

import (
	"lathe/api"
	"lathe/float"
	"lathe/vector"
)

// normed is a kind that keeps nothing, and works on each piece by the norm of all.
type normed struct {
	uncounted
	rule func(norm api.F, g piece) piece
}

func (k *normed) step(g, _ []piece) []piece {
	norm := normOf(g)
	u := make([]piece, len(g))
	for i := range g {
		u[i] = k.rule(norm, g[i])
	}
	return u
}

func (k *normed) clone() kind { return k }

// normOf is the norm of all pieces: the total of each is reckoned by itself, and then added.
func normOf(list []piece) api.F {
	totals := make([]api.F, len(list))
	for i, a := range list {
		totals[i] = a.total()
	}
	return float.Sqrt(vector.Sum(totals))
}

// normRule is what such a transform does with a piece; nil for all others.
func normRule(op int, n []api.F) func(norm api.F, g piece) piece {
	switch op {
	case api.TxGlobalNorm:
		return func(norm api.F, g piece) piece { return clipped(norm, n[0], g) }
	case api.TxNormalize:
		return func(norm api.F, g piece) piece {
			return g.over(all(float.Add(norm, n[1]))).times(all(n[0]))
		}
	}
	return nil
}
