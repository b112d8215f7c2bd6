package mealy

import "lathe/api"

// kept is what a transform keeps of one piece; which of these, hangs on the transform.
type kept struct {
	m    piece
	v, x numbers
}

// A rule is what a transform that keeps something does with a piece: the update, and what is kept from there on. The count is that ahead of
// the step.
type rule func(g, p piece, k kept, count int) (piece, kept)

// A keeper does what a rule says.
type keeper struct {
	rule rule
	kept []kept // of each piece
}

// keeps is a keeper that has done no step.
func keeps(shapes []shape, begin func(s shape) kept, r rule) keeper {
	k := keeper{r, make([]kept, len(shapes))}
	for i, s := range shapes {
		k.kept[i] = begin(s)
	}
	return k
}

// obey makes a new list of what is kept: a clone may have the old one.
func (k *keeper) obey(g, p []piece, count int) []piece {
	u, next := make([]piece, len(g)), make([]kept, len(g))
	for i := range g {
		u[i], next[i] = k.rule(g[i], p[i], k.kept[i], count)
	}
	k.kept = next
	return u
}

// keeping is a kind that keeps no count.
type keeping struct {
	uncounted
	keeper
}

func (k *keeping) step(g, p []piece) []piece { return k.obey(g, p, 0) }

func (k *keeping) clone() kind {
	c := *k
	return &c
}

// counting is a kind that keeps a count too.
type counting struct {
	counter
	keeper
}

func (k *counting) step(g, p []piece) []piece {
	u := k.obey(g, p, k.count)
	k.countOn()
	return u
}

func (k *counting) clone() kind {
	c := *k
	return &c
}

// first keeps m, with a number in each part.
func first(m api.F) func(s shape) kept {
	return func(s shape) kept { return kept{m: s.filled(m)} }
}

// second keeps v.
func second(v api.F) func(s shape) kept {
	return func(s shape) kept { return kept{v: filled(s.size, v)} }
}

// both keeps m and v.
func both(m, v api.F) func(s shape) kept {
	return func(s shape) kept { return kept{m: s.filled(m), v: filled(s.size, v)} }
}

// andX keeps x too, +0 at the beginning.
func andX(begin func(s shape) kept) func(s shape) kept {
	return func(s shape) kept {
		k := begin(s)
		k.x = filled(s.size, api.Zero)
		return k
	}
}

// onePiece keeps m, and in v a single number for the whole piece.
func onePiece(s shape) kept {
	return kept{m: s.filled(api.Zero), v: all(api.Zero)}
}

// keeperOf is a transform that keeps something of each piece.
func keeperOf(t *api.Tx, n []api.F, shapes []shape) kind {
	if begin, r := uncountedRule(t, n); r != nil {
		return &keeping{keeper: keeps(shapes, begin, r)}
	}
	begin, r := countedRule(t, n)
	return &counting{keeper: keeps(shapes, begin, r)}
}

// uncountedRule is what such a transform begins with and does, if it keeps no count.
func uncountedRule(t *api.Tx, n []api.F) (func(s shape) kept, rule) {
	switch t.Op {
	case api.TxTrace:
		return first(api.Zero), trace(n[0], t.Ints[0] == 1)
	case api.TxRms:
		return second(n[2]), byRms(n[0], n[1])
	case api.TxRss:
		return second(n[0]), byRss(n[1])
	case api.TxLion:
		return first(api.Zero), lion(n[0], n[1])
	case api.TxAdadelta:
		return andX(second(api.Zero)), adadelta(n[0], n[1])
	case api.TxStddev:
		return both(api.Zero, n[2]), stddev(n[0], n[1])
	case api.TxOptimistic:
		return first(api.Zero), optimistic(n[0], n[1])
	}
	return nil, nil
}

// countedRule is that of one that does.
func countedRule(t *api.Tx, n []api.F) (func(s shape) kept, rule) {
	switch t.Op {
	case api.TxEma:
		return first(api.Zero), ema(n[0], t.Ints[0] == 1)
	case api.TxAdam:
		return both(api.Zero, api.Zero), adam(n[0], n[1], n[2], n[3])
	case api.TxBelief:
		return both(api.Zero, api.Zero), belief(n[0], n[1], n[2], n[3])
	case api.TxYogi:
		return both(n[3], n[3]), yogi(n[0], n[1], n[2])
	case api.TxAmsgrad:
		return andX(both(api.Zero, api.Zero)), amsgrad(n[0], n[1], n[2], n[3])
	case api.TxAdamax:
		return andX(first(api.Zero)), adamax(n[0], n[1], n[2])
	}
	return onePiece, novograd(n[0], n[1], n[2], n[3], n[4])
}
