package interp

import (
	"lathe/api"
	"lathe/vector"
)

// held is what a slot or a register holds: of a TypeWhole no patterns, of another type no whole number. The patterns are never written
// over: registers, slots and clones may have the same ones.
type held struct {
	patterns []api.F
	whole    int
}

// begun is what a slot of the code holds at the beginning. Of a slot that may be, Bits or Int is 0, whichever its type has not.
func begun(c *api.Code, s api.Slot) held {
	return held{filled(c, s.Type, s.Bits), s.Int}
}

// filled is a pattern as often as one of that type has patterns.
func filled(c *api.Code, t api.Type, a api.F) []api.F {
	list, _ := vector.Fill(width(c, t), a) // no type that may be is too wide
	return list
}

// width is how many patterns one of that type has.
func width(c *api.Code, t api.Type) int {
	switch t.Kind {
	case api.TypeVector:
		return c.Sign[t.Param].Len
	case api.TypeNumber:
		return 1
	}
	return 0
}
