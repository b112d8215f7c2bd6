package lower

import "lathe/api"

// A transform lowers one: the updates' pieces of the gradients'.
type transform struct {
	*builder
	*api.Tx
	g []piece
}

// lowered are the updates of a transform. Of code that is beyond a limit nothing more is asked: then the gradients will do.
func lowered(b *builder, t *api.Tx, g []piece) []piece {
	if b.isFull() {
		return g
	}
	return transform{b, t, g}.updates()
}

func (t transform) updates() []piece {
	switch t.Op {
	case api.TxChain:
		return t.chain()
	case api.TxMasked, api.TxPartition:
		return t.parted()
	case api.TxSplit:
		return joined(t.g, t.kid(0, t.g))
	case api.TxMultiSteps:
		return t.multiSteps()
	case api.TxEvery:
		return t.every()
	case api.TxIfFinite:
		return t.ifFinite()
	case api.TxSkipLarge:
		return t.skipLarge()
	case api.TxUntil:
		return t.until()
	}
	return t.each(t.rule())
}

// A rule is what a transform does with a piece, behind what it does once for all.
type rule func(g piece) piece

// rule is that of a transform that works on each piece by itself.
func (t transform) rule() rule {
	if r := t.partRule(); r != nil {
		return func(g piece) piece { return g.each(r) }
	}
	if r := t.plainRule(); r != nil {
		return r
	}
	if r := t.normRule(); r != nil {
		return r
	}
	if r := t.keptRule(); r != nil {
		return r
	}
	return t.countedRule()
}

func (t transform) each(r rule) []piece {
	u := make([]piece, len(t.g))
	for i, g := range t.g {
		u[i] = r(g)
	}
	return u
}

// kid is what a kid answers to those of the pieces that it works on.
func (t transform) kid(place int, g []piece) []piece {
	return lowered(t.builder, &t.Kids[place], inner(t.Tx, place, g))
}

func (t transform) chain() []piece {
	g := t.g
	for i := range t.Kids {
		g = t.kid(i, g)
	}
	return g
}

// parted has of each piece what its own kid answers; what no kid has is left as it is.
func (t transform) parted() []piece {
	answers := make([][]piece, len(t.Kids))
	for i := range t.Kids {
		answers[i] = t.kid(i, t.g)
	}
	return t.each(func(g piece) piece {
		kid := owner(t.Tx, g)
		if kid == len(answers) {
			return g
		}
		u := answers[kid][0]
		answers[kid] = answers[kid][1:]
		return u
	})
}
