package vector

import (
	"lathe/api"
	"lathe/bits"
	"lathe/float"
)

// maxArgs is how many arguments an elementwise instruction takes at most.
const maxArgs = 3

// A work is what an instruction makes of its arguments' elements at one place.
type work func(at [maxArgs]api.F) api.F

// Apply does an instruction element by element.
func Apply(op int, args ...[]api.F) ([]api.F, api.Errno) {
	takes, do := instruction(op)
	if takes == 0 || takes != len(args) {
		return nil, api.ErrArg
	}
	n, ok := shape(args)
	if !ok {
		return nil, api.ErrShape
	}
	return elements(n, func(place int) api.F {
		return do(argsAt(place, args))
	}), api.OK
}

// instruction is how many arguments an elementwise instruction takes, and what it makes of an element of each; 0 of any other.
func instruction(op int) (int, work) {
	switch op {
	case api.OpCopy:
		return 1, ofOne(bits.Canon)
	case api.OpSqrt:
		return 1, ofOne(float.Sqrt)
	case api.OpNeg:
		return 1, ofOne(float.Neg)
	case api.OpAbs:
		return 1, ofOne(float.Abs)
	case api.OpFinite:
		return 1, ofOne(func(a api.F) api.F { return oneIf(float.Finite(a)) })
	case api.OpAdd:
		return 2, ofTwo(float.Add)
	case api.OpSub:
		return 2, ofTwo(float.Sub)
	case api.OpMul:
		return 2, ofTwo(float.Mul)
	case api.OpDiv:
		return 2, ofTwo(float.Div)
	case api.OpMin:
		return 2, ofTwo(float.Min)
	case api.OpMax:
		return 2, ofTwo(float.Max)
	case api.OpLess:
		return 2, ofTwo(func(a, b api.F) api.F { return oneIf(float.Less(a, b)) })
	case api.OpSelect:
		return 3, func(at [maxArgs]api.F) api.F { return float.Select(at[0], at[1], at[2]) }
	}
	return 0, nil
}

func ofOne(call func(a api.F) api.F) work {
	return func(at [maxArgs]api.F) api.F { return call(at[0]) }
}

func ofTwo(call func(a, b api.F) api.F) work {
	return func(at [maxArgs]api.F) api.F { return call(at[0], at[1]) }
}

func oneIf(holds bool) api.F {
	if holds {
		return api.One
	}
	return api.Zero
}

// shape is the length that the arguments have together, where they go together: one of a single element goes with all but an empty one.
func shape(args [][]api.F) (int, bool) {
	n := len(args[0])
	for _, a := range args[1:] {
		switch {
		case len(a) == n:
		case len(a) == 0 || n == 0:
			return 0, false
		case n == 1:
			n = len(a)
		case len(a) != 1:
			return 0, false
		}
	}
	return n, true
}

// argsAt is each argument's element at a place.
func argsAt(place int, args [][]api.F) [maxArgs]api.F {
	var at [maxArgs]api.F
	for i, a := range args {
		if len(a) == 1 {
			at[i] = a[0]
		} else {
			at[i] = a[place]
		}
	}
	return at
}
