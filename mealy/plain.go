package mealy

import (
	"slices"

	"lathe/api"
	"lathe/float"
	"lathe/vector"
)

// plain is a kind that keeps nothing, and works on each piece by itself.
type plain struct {
	uncounted
	rule func(g, p piece) piece
}

func (k *plain) step(g, p []piece) []piece {
	u := make([]piece, len(g))
	for i := range g {
		u[i] = k.rule(g[i], p[i])
	}
	return u
}

func (k *plain) clone() kind { return k }

// plainRule is what such a transform does with a piece; nil for all others.
func plainRule(op int, n []api.F) func(g, p piece) piece {
	switch op {
	case api.TxIdentity:
		return func(g, _ piece) piece { return g }
	case api.TxZero:
		return func(g, _ piece) piece { return blank(g) }
	case api.TxScale:
		return func(g, _ piece) piece { return g.times(all(n[0])) }
	case api.TxDecay:
		return func(g, p piece) piece { return g.plus(p.times(all(n[0]))) }
	case api.TxCentralize:
		return func(g, _ piece) piece { return centred(g) }
	case api.TxZeroNans:
		return func(g, _ piece) piece { return g.each(withoutNaN) }
	case api.TxClip:
		return func(g, _ piece) piece { return g.each(between(float.Neg(n[0]), n[0])) }
	case api.TxSign:
		return func(g, _ piece) piece { return g.each(signOf) }
	case api.TxNonnegative:
		return nonnegative
	case api.TxBox:
		return func(g, p piece) piece { return p.plus(g).each(between(n[0], n[1])).minus(p) }
	}
	return blockRule(op, n)
}

// blockRule is what a transform does with a piece that goes by the size of that piece's numbers; nil for all others.
func blockRule(op int, n []api.F) func(g, p piece) piece {
	switch op {
	case api.TxBlockRms:
		return func(g, _ piece) piece {
			return g.over(all(float.Max(api.One, float.Div(rms(g), n[0]))))
		}
	case api.TxTrust:
		return func(g, p piece) piece { return g.times(all(trust(n, g, p))) }
	case api.TxParamRms:
		return func(g, p piece) piece { return g.times(all(float.Max(rms(p), n[0]))) }
	case api.TxParamNorm:
		return func(g, p piece) piece { return g.times(all(float.Max(p.norm(), n[0]))) }
	case api.TxBlockNorm:
		return func(g, _ piece) piece { return clipped(g.norm(), n[0], g) }
	case api.TxAdaptive:
		return func(g, p piece) piece { return adaptive(n, g, p) }
	}
	return nil
}

func withoutNaN(a api.F) api.F {
	if !float.Equal(a, a) {
		return api.Zero
	}
	return a
}

func between(low, high api.F) func(a api.F) api.F {
	return func(a api.F) api.F { return float.Min(float.Max(a, low), high) }
}

// centred is a piece less its mean. One element is left as it is, though its mean is the element itself.
func centred(g piece) piece {
	if g.size() == 1 {
		return g
	}
	if !g.isComplex() {
		return piece{reals: g.reals.minus(all(vector.Mean(g.reals)))}
	}
	re, im := g.split()
	return joined(centred(re), centred(im))
}

// nonnegative is real, as check sees to it.
func nonnegative(g, p piece) piece {
	u := slices.Clone(g.reals)
	for i, sum := range p.reals.plus(g.reals) {
		if float.Less(sum, api.Zero) {
			u[i] = float.Neg(p.reals[i])
		}
	}
	return piece{reals: u}
}

// rms is the root of the mean square.
func rms(a piece) api.F { return float.Sqrt(float.Div(a.total(), a.length())) }

func trust(n []api.F, g, p piece) api.F {
	least, k, eps := n[0], n[1], n[2]
	a, b := float.Max(p.norm(), least), float.Max(g.norm(), least)
	if float.Equal(a, api.Zero) || float.Equal(b, api.Zero) {
		return api.One
	}
	return float.Div(float.Mul(k, a), float.Add(b, eps))
}

// clipped is a piece brought down to a norm of most, if norm is not less.
func clipped(norm, most api.F, g piece) piece {
	if float.Less(norm, most) {
		return g
	}
	return g.over(all(norm)).times(all(most))
}

// millionth is 1e-6.
const millionth api.F = 0x358637bd

func adaptive(n []api.F, g, p piece) piece {
	k, eps := n[0], n[1]
	most, norm := float.Mul(k, float.Max(p.norm(), eps)), g.norm()
	if float.Less(norm, most) {
		return g
	}
	return g.over(all(float.Max(norm, millionth))).times(all(most))
}
