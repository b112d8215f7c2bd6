package check

import "lathe/api"

// A set is of parameters: the bit of each that is in it. There are at most MaxParams, as many as it has bits.
type set uint64

func setOf(places []int) set {
	var s set
	for _, i := range places {
		s |= 1 << i
	}
	return s
}

// A view is what a transform sees.
type view struct {
	active  set
	complex set // those of the signature that are complex numbers there: none within a split
}

// viewOf is that of a program's outermost transform.
func viewOf(list []api.Param) view {
	var v view
	for i := range list {
		v.active |= 1 << i
		if list[i].Kind == api.KindComplex {
			v.complex |= 1 << i
		}
	}
	return v
}

func (v view) seesComplex() bool { return v.active&v.complex != 0 }

// within is what the kids of a transform with that Op see, if it has no masks.
func (v view) within(op int) view {
	if op == api.TxSplit {
		v.complex = 0
	}
	return v
}

// next is the view of the kid at a place, and takes away what its mask means, if it has one: no kid behind it sees that.
func (v *view) next(masks [][]int, kid int) view {
	own := *v
	if kid < len(masks) {
		means := setOf(masks[kid])
		own.active &= means
		v.active &^= means
	}
	return own
}
