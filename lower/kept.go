package lower

import (
	"lathe/api"
	"lathe/float"
)

// mix is (1 - d) of what is new, and d of what is old.
func (t transform) mix(d api.F, fresh, old int) int {
	return t.plus(t.times(t.number(float.Sub(api.One, d)), fresh), t.times(t.number(d), old))
}

// mixed is such a mix that is kept.
func (t transform) mixed(d api.F, fresh int, begin api.F) int {
	return t.renewedLike(fresh, begin, func(old int) int { return t.mix(d, fresh, old) })
}

// mean is a mix for each part.
func (t transform) mean(d api.F, g piece, begin api.F) piece {
	return g.each(func(x int) int { return t.mixed(d, x, begin) })
}

// rootPast is the root of something and a number.
func (t transform) rootPast(x int, a api.F) int { return t.root(t.plus(x, t.number(a))) }

// keptRule is what a transform does that keeps numbers, but no count; nil for all others.
func (t transform) keptRule() rule {
	n := t.Nums
	switch t.Op {
	case api.TxTrace:
		return func(g piece) piece { return g.each(t.trace) }
	case api.TxRms:
		return func(g piece) piece {
			return t.shrunk(g, t.rootPast(t.mixed(n[0], t.squares(g), n[2]), n[1]))
		}
	case api.TxRss:
		return t.rss
	case api.TxLion:
		return func(g piece) piece { return g.each(t.lion) }
	case api.TxAdadelta:
		return t.adadelta
	case api.TxStddev:
		return func(g piece) piece {
			m, v := t.mean(n[0], g, api.Zero), t.mixed(n[0], t.squares(g), n[2])
			return t.shrunk(g, t.rootPast(t.minus(v, t.squares(m)), n[1]))
		}
	case api.TxOptimistic:
		return func(g piece) piece { return g.each(t.optimistic) }
	}
	return nil
}

func (t transform) trace(x int) int {
	more := func(m int) int { return t.plus(x, t.times(t.number(t.Nums[0]), m)) }
	f := t.renewedLike(x, api.Zero, more)
	if t.Ints[0] == 1 {
		return more(f)
	}
	return f
}

func (t transform) rss(g piece) piece {
	squares := t.squares(g)
	s := t.renewedLike(squares, t.Nums[0], func(old int) int { return t.plus(old, squares) })
	nought := t.number(api.Zero)
	isAbove, by := t.less(nought, s), t.rootPast(s, t.Nums[1])
	return g.each(func(x int) int { return t.pick(isAbove, t.over(x, by), nought) })
}

func (t transform) lion(x int) int {
	var u int
	t.renewedLike(x, api.Zero, func(old int) int {
		u = t.signOf(t.mix(t.Nums[0], x, old))
		return t.mix(t.Nums[1], x, old)
	})
	return u
}

func (t transform) adadelta(g piece) piece {
	d, eps := t.Nums[0], t.Nums[1]
	v := t.mixed(d, t.squares(g), api.Zero)
	var u piece
	t.renewedLike(v, api.Zero, func(x int) int {
		u = t.scaled(g, t.over(t.rootPast(x, eps), t.rootPast(v, eps)))
		return t.mix(d, t.squares(u), x)
	})
	return u
}

func (t transform) optimistic(x int) int {
	a, b := t.Nums[0], t.Nums[1]
	var u int
	t.renewedLike(x, api.Zero, func(m int) int {
		u = t.minus(t.times(t.number(float.Add(a, b)), x), t.times(t.number(b), m))
		return x
	})
	return u
}
