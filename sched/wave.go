package sched

import (
	"lathe/api"
	"lathe/float"
)

// Wave is the cosine of half a turn times x, by a fixed polynomial. A NaN goes through all of it, and stays one.
func Wave(x api.F) api.F {
	x = float.Min(float.Max(x, api.Zero), api.One)
	switch {
	case x == api.Half:
		return api.Zero
	case float.Less(api.Half, x):
		return float.Neg(quarter(float.Sub(api.One, x)))
	}
	return quarter(x)
}

// quarter is the cosine of half a turn times t, for t from 0 to a half.
func quarter(t api.F) api.F {
	factors := [7]api.F{0x3afce9c5, 0xbcd368f9, 0x3e70fa83, 0xbfaae9e4, 0x4081e0f8, 0xc09de9e6, api.One}
	square := float.Mul(t, t)
	sum := factors[0]
	for _, next := range factors[1:] {
		sum = float.Add(float.Mul(sum, square), next)
	}
	return sum
}
