package mealy

import (
	"slices"

	"lathe/api"
)

// A shape is what is known of a piece ahead of all steps.
type shape struct {
	param   int // which one of the signature it is of
	complex bool
	size    int
}

func shapesOf(list []api.Param) []shape {
	out := make([]shape, len(list))
	for i, p := range list {
		out[i] = shape{i, p.Kind == api.KindComplex, p.Len}
	}
	return out
}

// filled is a piece with a number in each part.
func (s shape) filled(a api.F) piece {
	if !s.complex {
		return piece{reals: filled(s.size, a)}
	}
	re := piece{reals: filled(s.size, a)}
	return joined(re, re)
}

// split are the shapes of the pieces within a split: of a complex one two.
func split(shapes []shape) []shape {
	var out []shape
	for _, s := range shapes {
		if s.complex {
			s.complex = false
			out = append(out, s)
		}
		out = append(out, s)
	}
	return out
}

// shared deals the places of pieces out to masks: each gets those of its parameters that no mask ahead of it got. The last
// list is what is left.
func shared(shapes []shape, masks [][]int) [][]int {
	out := make([][]int, len(masks)+1)
	for place, s := range shapes {
		to := slices.IndexFunc(masks, func(mask []int) bool { return slices.Contains(mask, s.param) })
		if to < 0 {
			to = len(masks)
		}
		out[to] = append(out[to], place)
	}
	return out
}

// among are the elements of a list at some places.
func among[T any](list []T, places []int) []T {
	out := make([]T, len(places))
	for i, place := range places {
		out[i] = list[place]
	}
	return out
}
