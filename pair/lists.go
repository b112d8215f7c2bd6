package pair

import "lathe/api"

// Here the patterns stay what they are: as numbers of Go's they might lose which NaN they were.

// Pairs makes complex numbers of numbers in turns.
func Pairs(list []api.F) ([]api.C, api.Errno) {
	if len(list)%2 != 0 {
		return nil, api.ErrShape
	}
	pairs := make([]api.C, len(list)/2)
	for i := range pairs {
		pairs[i] = api.C{Re: list[2*i], Im: list[2*i+1]}
	}
	return pairs, api.OK
}

// Flat lays the parts in turns.
func Flat(list []api.C) []api.F {
	flat := make([]api.F, 2*len(list))
	for i, z := range list {
		flat[2*i], flat[2*i+1] = z.Re, z.Im
	}
	return flat
}
