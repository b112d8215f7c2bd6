package mealy

import (
	"slices"

	"lathe/api"
)

// chain is a kind whose kids work behind one another.
type chain struct{ kids }

func (k *chain) step(g, p []piece) []piece {
	for _, kid := range k.kids {
		g = kid.step(g, p)
	}
	return g
}

func (k *chain) clone() kind { return &chain{k.clones()} }

// parted is a kind whose kids have each their own pieces. What no kid has is left as it is.
type parted struct {
	kids
	places [][]int // of each kid's pieces
}

// partedOf is a TxMasked, or a TxPartition, which has a kid more than masks: that one has what is left.
func partedOf(t *api.Tx, shapes []shape) kind {
	k := &parted{places: shared(shapes, t.Masks)[:len(t.Kids)]}
	for i := range t.Kids {
		k.kids = append(k.kids, made(&t.Kids[i], among(shapes, k.places[i])))
	}
	return k
}

func (k *parted) step(g, p []piece) []piece {
	u := slices.Clone(g)
	for i, kid := range k.kids {
		own := kid.step(among(g, k.places[i]), among(p, k.places[i]))
		for j, place := range k.places[i] {
			u[place] = own[j]
		}
	}
	return u
}

func (k *parted) clone() kind { return &parted{k.clones(), k.places} }

// splitting is a kind whose kid sees no complex numbers, but their parts.
type splitting struct{ kids }

func (k *splitting) step(g, p []piece) []piece {
	own := k.kids[0].step(splitAll(g), splitAll(p))
	u := make([]piece, len(g))
	for i := range g {
		if g[i].isComplex() {
			u[i], own = joined(own[0], own[1]), own[2:]
		} else {
			u[i], own = own[0], own[1:]
		}
	}
	return u
}

func (k *splitting) clone() kind { return &splitting{k.clones()} }

func splitAll(list []piece) []piece {
	var out []piece
	for _, a := range list {
		if a.isComplex() {
			re, im := a.split()
			out = append(out, re, im)
		} else {
			out = append(out, a)
		}
	}
	return out
}
