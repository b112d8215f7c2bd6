package mealy

import (
	"slices"

	"lathe/api"
)

// A kind is a transform at work.
type kind interface {
	// step is what the transform answers to gradients and parameters. It keeps pieces as they are, but no list of them that it was given.
	step(g, p []piece) []piece
	// jump sets all counts that Jump sets, also those of kids.
	jump(count int)
	// clone is one like it, on its own from there on.
	clone() kind
}

// made is a transform that has done no step. Of what it was made of it has nothing: the numbers are copies.
func made(t *api.Tx, shapes []shape) kind {
	nums := slices.Clone(t.Nums)
	if k := holder(t, shapes); k != nil {
		return k
	}
	if rule := plainRule(t.Op, nums); rule != nil {
		return &plain{rule: rule}
	}
	if rule := normRule(t.Op, nums); rule != nil {
		return &normed{rule: rule}
	}
	return keeperOf(t, nums, shapes)
}

// holder is a transform that has kids or works over several steps; nil for all others.
func holder(t *api.Tx, shapes []shape) kind {
	switch t.Op {
	case api.TxChain:
		return &chain{kidsOf(t, shapes)}
	case api.TxMasked, api.TxPartition:
		return partedOf(t, shapes)
	case api.TxSplit:
		return &splitting{kidsOf(t, split(shapes))}
	case api.TxSchedule:
		return &scheduled{sched: copied(&t.Sched)}
	case api.TxMultiSteps:
		return &multiSteps{kidsOf(t, shapes), roundOf(t, shapes)}
	case api.TxEvery:
		return &every{round: roundOf(t, shapes)}
	case api.TxIfFinite:
		return &ifFinite{kids: kidsOf(t, shapes), most: t.Ints[0]}
	case api.TxSkipLarge:
		return &skipLarge{kidsOf(t, shapes), t.Nums[0]}
	case api.TxUntil:
		return &until{kids: kidsOf(t, shapes), steps: t.Ints[0]}
	}
	return nil
}

// kids are the transforms in one.
type kids []kind

// kidsOf are a transform's kids, where all of them work on the same pieces.
func kidsOf(t *api.Tx, shapes []shape) kids {
	out := make(kids, len(t.Kids))
	for i := range t.Kids {
		out[i] = made(&t.Kids[i], shapes)
	}
	return out
}

func (k kids) jump(count int) {
	for _, kid := range k {
		kid.jump(count)
	}
}

func (k kids) clones() kids {
	out := make(kids, len(k))
	for i, kid := range k {
		out[i] = kid.clone()
	}
	return out
}
