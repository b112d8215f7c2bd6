package lower

import (
	"slices"

	"lathe/api"
)

// A piece is what a transform works on of one parameter.
type piece struct {
	param int
	parts []int // which parts of the parameter: of a complex piece both
	at    []int // the register of each part, or the slot
}

// piecesOf are the pieces of all parameters. They stand nowhere yet.
func piecesOf(list []api.Param) []piece {
	out := make([]piece, len(list))
	for i, p := range list {
		out[i] = piece{param: i, parts: []int{0}}
		if p.Kind == api.KindComplex {
			out[i].parts = []int{0, 1}
		}
	}
	return out
}

// each is a piece with another register for each of its own.
func (a piece) each(do func(x int) int) piece {
	at := make([]int, len(a.at))
	for i, x := range a.at {
		at[i] = do(x)
	}
	return piece{a.param, a.parts, at}
}

// with is a piece with a register for each of its own and the other's in the same place.
func (a piece) with(other piece, do func(x, y int) int) piece {
	at := make([]int, len(a.at))
	for i, x := range a.at {
		at[i] = do(x, other.at[i])
	}
	return piece{a.param, a.parts, at}
}

// inner are those of a transform's pieces that one of its kids works on.
func inner(t *api.Tx, kid int, g []piece) []piece {
	switch t.Op {
	case api.TxMasked, api.TxPartition:
		return slices.DeleteFunc(slices.Clone(g), func(a piece) bool { return owner(t, a) != kid })
	case api.TxSplit:
		return split(g)
	}
	return g
}

// owner is the kid that a TxMasked or a TxPartition gives a piece to. Behind the masks comes what none of them means: the last kid of
// a TxPartition has it, no kid of a TxMasked.
func owner(t *api.Tx, a piece) int {
	for kid, mask := range t.Masks {
		if slices.Contains(mask, a.param) {
			return kid
		}
	}
	return len(t.Masks)
}

// split has two pieces for each complex one.
func split(g []piece) []piece {
	var out []piece
	for _, a := range g {
		for i, part := range a.parts {
			half := piece{param: a.param, parts: []int{part}}
			if len(a.at) > 0 { // it has none where it is weighed alone
				half.at = []int{a.at[i]}
			}
			out = append(out, half)
		}
	}
	return out
}

// joined has the registers of pieces that were split, in the form that they had ahead of it.
func joined(whole, halves []piece) []piece {
	out := make([]piece, len(whole))
	for i, a := range whole {
		out[i] = piece{param: a.param, parts: a.parts}
		for range a.parts {
			out[i].at = append(out[i].at, halves[0].at[0])
			halves = halves[1:]
		}
	}
	return out
}
