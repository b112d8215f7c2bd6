package lower

import (
	"lathe/api"
	"lathe/float"
)

// countedRule is what a transform does that keeps a count. It is kept also where there are no pieces.
func (t transform) countedRule() rule {
	ahead, behind := t.counted()
	switch t.Op {
	case api.TxSchedule:
		s := valueAt(t.builder, &t.Sched, ahead)
		return func(g piece) piece { return t.scaled(g, s) }
	case api.TxEma:
		return t.ema(behind)
	case api.TxAdamax:
		return t.adamax(behind)
	case api.TxNovograd:
		isFirst := t.from(t.wholes(api.OpNot, ahead))
		return func(g piece) piece { return t.novograd(g, isFirst) }
	}
	return t.adam(behind)
}

// share is how much of a mix is not what it began with, so many steps on.
func (t transform) share(d api.F, count int) int {
	return t.minus(t.number(api.One), t.power(t.number(d), count))
}

func (t transform) ema(count int) rule {
	d := t.Nums[0]
	if t.Ints[0] == 0 {
		return func(g piece) piece { return t.mean(d, g, api.Zero) }
	}
	share := t.share(d, count)
	return func(g piece) piece { return t.shrunk(t.mean(d, g, api.Zero), share) }
}

func (t transform) adamax(count int) rule {
	b1, b2, eps := t.Nums[0], t.Nums[1], t.Nums[2]
	share := t.share(b1, count)
	return func(g piece) piece {
		m := t.mean(b1, g, api.Zero)
		size := t.plus(t.root(t.squares(g)), t.number(eps))
		x := t.renewedLike(size, api.Zero, func(old int) int { return t.most(size, t.times(t.number(b2), old)) })
		return t.shrunk(t.shrunk(m, share), x)
	}
}

func (t transform) novograd(g piece, isFirst int) piece {
	b1, b2, eps, root, w := t.Nums[0], t.Nums[1], t.Nums[2], t.Nums[3], t.Nums[4]
	total := t.total(g)
	s := t.renewedLike(total, api.Zero, func(old int) int { return t.pick(isFirst, total, t.mix(b2, total, old)) })
	by := t.plus(t.rootPast(s, root), t.number(eps))
	return g.with(t.params(g), func(x, p int) int {
		more := t.plus(t.over(x, by), t.times(t.number(w), p))
		return t.renewedLike(x, api.Zero, func(m int) int { return t.plus(t.times(t.number(b1), m), more) })
	})
}

// adam is the rule of TxAdam, and of those that are like it but for their spread.
func (t transform) adam(count int) rule {
	b1, b2, eps := t.Nums[0], t.Nums[1], t.Nums[2]
	begin := api.Zero
	if t.Op == api.TxYogi {
		begin = t.Nums[3]
	}
	share, shareOfSquares := t.share(b1, count), t.share(b2, count)
	return func(g piece) piece {
		m := t.mean(b1, g, begin)
		by := t.plus(t.root(t.spread(g, m, shareOfSquares)), t.number(eps))
		return t.shrunk(t.shrunk(m, share), by)
	}
}

// spread is what the root is taken of.
func (t transform) spread(g, m piece, share int) int {
	b2, last := t.Nums[1], t.Nums[3]
	switch t.Op {
	case api.TxBelief:
		return t.over(t.surprise(g, m), share)
	case api.TxYogi:
		return t.over(t.drawn(g), share)
	}
	even := t.over(t.mixed(b2, t.squares(g), api.Zero), share)
	if t.Op != api.TxAmsgrad {
		return t.plus(even, t.number(last))
	}
	x := t.renewedLike(even, api.Zero, func(old int) int { return t.most(old, even) })
	return t.plus(x, t.number(last))
}

// surprise is how far gradients are off their mean: TxBelief's v.
func (t transform) surprise(g, m piece) int {
	b2, root := t.Nums[1], t.Nums[3]
	squares := t.squares(g.with(m, t.minus))
	return t.renewedLike(squares, api.Zero, func(v int) int { return t.plus(t.mix(b2, squares, v), t.number(root)) })
}

// drawn goes by steps towards the squares: TxYogi's v.
func (t transform) drawn(g piece) int {
	b2, begin := t.Nums[1], t.Nums[3]
	squares := t.squares(g)
	return t.renewedLike(squares, begin, func(v int) int {
		way := t.times(t.number(float.Sub(api.One, b2)), t.signOf(t.minus(v, squares)))
		return t.minus(v, t.times(way, squares))
	})
}
