// Package bits is layer 1: bit patterns of binary32: see shared/doc/01-bits.md.
package bits

import "lathe/api"

// The classes.
const (
	Nought = iota + 1
	Subnormal
	Normal
	Infinite
	NotNumber
)

const (
	fractionBits = 23
	maxFraction  = 1<<fractionBits - 1
	maxExponent  = 255 // of the infinities and the NaNs
)

// Class is the class of a pattern.
func Class(a api.F) int {
	_, exponent, fraction := Parts(a)
	switch {
	case exponent == maxExponent && fraction != 0:
		return NotNumber
	case exponent == maxExponent:
		return Infinite
	case exponent != 0:
		return Normal
	case fraction != 0:
		return Subnormal
	}
	return Nought
}

// Canon is a pattern with the one NaN in the place of all others.
func Canon(a api.F) api.F {
	if Class(a) == NotNumber {
		return api.NaN
	}
	return a
}

// Parts are a pattern's sign, exponent and fraction.
func Parts(a api.F) (bool, int, int) {
	return a&api.Minus != 0, int(a >> fractionBits & maxExponent), int(a & maxFraction)
}

// Make is the pattern of these parts.
func Make(minus bool, exponent int, fraction int) (api.F, api.Errno) {
	if exponent < 0 || exponent > maxExponent || fraction < 0 || fraction > maxFraction {
		return 0, api.ErrArg
	}
	a := api.F(exponent)<<fractionBits | api.F(fraction)
	if minus {
		a |= api.Minus
	}
	return a, api.OK
}

// Key orders all numbers: false for a NaN.
func Key(a api.F) (int, bool) {
	if Class(a) == NotNumber {
		return 0, false
	}
	if a&api.Minus != 0 {
		// -0 stands just below +0, whose key is 0.
		return -1 - int(a&^api.Minus), true
	}
	return int(a), true
}

// ofKey is the pattern that has this key.
func ofKey(key int) api.F {
	if key < 0 {
		return api.Minus | api.F(-1-key)
	}
	return api.F(key)
}

// Next is the neighbour above.
func Next(a api.F) api.F {
	key, ok := Key(a)
	if !ok {
		return api.NaN
	}
	if a == api.Inf {
		return a
	}
	return ofKey(key + 1)
}

// Prev is the neighbour below.
func Prev(a api.F) api.F {
	key, ok := Key(a)
	if !ok {
		return api.NaN
	}
	if a == api.Minus|api.Inf {
		return a
	}
	return ofKey(key - 1)
}
