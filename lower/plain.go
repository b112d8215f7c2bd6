package lower

import (
	"lathe/api"
	"lathe/float"
)

// partRule is what a transform does that keeps nothing and works on each part by itself; nil for all others.
func (t transform) partRule() func(x int) int {
	n := t.Nums
	switch t.Op {
	case api.TxIdentity:
		return func(x int) int { return x }
	case api.TxZero:
		return t.nothing
	case api.TxScale:
		return func(x int) int { return t.times(t.number(n[0]), x) }
	case api.TxClip:
		return func(x int) int { return t.between(x, float.Neg(n[0]), n[0]) }
	case api.TxSign:
		return t.signOf
	case api.TxCentralize:
		return t.centred
	case api.TxZeroNans:
		return t.withoutNaN
	}
	return nil
}

// nothing is +0 everywhere.
func (t transform) nothing(x int) int {
	return t.set(t.code.Regs[x], reading(api.OpCopy, t.number(api.Zero)))
}

func (t transform) between(x int, low, high api.F) int {
	return t.least(t.most(x, t.number(low)), t.number(high))
}

// length is how many elements a vector has.
func (t transform) length(x int) int { return t.code.Sign[t.code.Regs[x].Param].Len }

// centred is a vector less its mean. One element is left as it is, though its mean is the element itself.
func (t transform) centred(x int) int {
	if t.length(x) == 1 {
		return x
	}
	return t.minus(x, t.over(t.sum(x), t.number(float.FromInt(t.length(x)))))
}

// withoutNaN picks all but noughts and NaNs by themselves; of these a nought is finite.
func (t transform) withoutNaN(x int) int {
	noughtOrNaN := t.pick(t.apply(api.OpFinite, x), x, t.number(api.Zero))
	return t.pick(x, x, noughtOrNaN)
}

// plainRule is what a transform does that keeps nothing and works on each piece by itself; nil for all others.
func (t transform) plainRule() rule {
	n := t.Nums
	switch t.Op {
	case api.TxDecay:
		return func(g piece) piece {
			return g.with(t.params(g), func(x, p int) int { return t.plus(x, t.times(t.number(n[0]), p)) })
		}
	case api.TxNonnegative:
		return func(g piece) piece { return g.with(t.params(g), t.nonnegative) }
	case api.TxBox:
		return func(g piece) piece {
			return g.with(t.params(g), func(x, p int) int { return t.minus(t.between(t.plus(p, x), n[0], n[1]), p) })
		}
	case api.TxBlockRms:
		return func(g piece) piece {
			return t.shrunk(g, t.most(t.number(api.One), t.over(t.rms(g), t.number(n[0]))))
		}
	case api.TxTrust:
		return func(g piece) piece { return t.scaled(g, t.trust(g)) }
	case api.TxParamRms:
		return func(g piece) piece { return t.scaled(g, t.most(t.rms(t.params(g)), t.number(n[0]))) }
	case api.TxParamNorm:
		return func(g piece) piece { return t.scaled(g, t.most(t.norm(t.params(g)), t.number(n[0]))) }
	case api.TxBlockNorm:
		return func(g piece) piece {
			norm := t.norm(g)
			return t.clipped(g, norm, t.number(n[0]), norm)
		}
	case api.TxAdaptive:
		return t.adaptive
	}
	return nil
}

// scaled is a piece times a number, or times a number for each element.
func (t transform) scaled(g piece, by int) piece {
	return g.each(func(x int) int { return t.times(by, x) })
}

// shrunk is a piece divided by a number, or by a number for each element.
func (t transform) shrunk(g piece, by int) piece {
	return g.each(func(x int) int { return t.over(x, by) })
}

func (t transform) nonnegative(x, p int) int {
	return t.pick(t.less(t.plus(p, x), t.number(api.Zero)), t.neg(p), x)
}

// rms is the root of the mean square.
func (t transform) rms(a piece) int {
	return t.root(t.over(t.total(a), t.number(float.FromInt(t.length(a.at[0])))))
}

func (t transform) trust(g piece) int {
	low := t.number(t.Nums[0])
	a, b := t.most(t.norm(t.params(g)), low), t.most(t.norm(g), low)
	ratio := t.over(t.times(t.number(t.Nums[1]), a), t.plus(b, t.number(t.Nums[2])))
	one := t.number(api.One)
	return t.pick(t.isNought(a), one, t.pick(t.isNought(b), one, ratio))
}

// clipped is a piece as it is, if norm is less than most, else divided by a number and times most.
func (t transform) clipped(g piece, norm, most, by int) piece {
	isLess := t.less(norm, most)
	return g.each(func(x int) int { return t.pick(isLess, x, t.times(t.over(x, by), most)) })
}

// millionth is 1e-6.
const millionth api.F = 0x358637bd

func (t transform) adaptive(g piece) piece {
	most := t.times(t.number(t.Nums[0]), t.most(t.norm(t.params(g)), t.number(t.Nums[1])))
	norm := t.norm(g)
	return t.clipped(g, norm, most, t.most(norm, t.number(millionth)))
}

// normRule is what a transform does that goes by the norm of all pieces; nil for all others.
func (t transform) normRule() rule {
	switch t.Op {
	case api.TxGlobalNorm:
		norm, most := t.normOfAll(), t.number(t.Nums[0])
		return func(g piece) piece { return t.clipped(g, norm, most, norm) }
	case api.TxNormalize:
		by := t.plus(t.normOfAll(), t.number(t.Nums[1]))
		return func(g piece) piece { return t.scaled(t.shrunk(g, by), t.number(t.Nums[0])) }
	}
	return nil
}

// normOfAll is the root of all pieces' totals, added in order.
func (t transform) normOfAll() int {
	sum := t.number(api.Zero)
	for _, g := range t.g {
		sum = t.plus(sum, t.total(g))
	}
	return t.root(sum)
}
