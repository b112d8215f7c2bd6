package alloc

import "lathe/api"

// The sorts of registers. Those of vectors are numbered by their parameters, from vectors on.
const (
	numbers = iota
	wholes
	vectors
)

func sortOf(t api.Type) int {
	switch t.Kind {
	case api.TypeNumber:
		return numbers
	case api.TypeWhole:
		return wholes
	}
	return vectors + t.Param
}

// limitOf is how many registers of a sort there may be.
func limitOf(sort int) int {
	switch sort {
	case numbers:
		return api.KeepScalar
	case wholes:
		return api.KeepWhole
	}
	return api.KeepVector
}
