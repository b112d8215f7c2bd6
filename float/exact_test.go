package float

import (
	"math/big"

	"lathe/api"
)

// Exact reckoning by whole numbers and fractions: no float stands here, so that the machine's own rounding is held against something else.

const (
	plusInf  api.F = 0x7f800000
	minusInf api.F = 0xff800000
	nan      api.F = 0x7fc00000
)

func isNaN(a api.F) bool { return a&0x7fffffff > 0x7f800000 }

func isInf(a api.F) bool { return a&0x7fffffff == 0x7f800000 }

func isNought(a api.F) bool { return a&0x7fffffff == 0 }

func isMinus(a api.F) bool { return a>>31 == 1 }

func isFinite(a api.F) bool { return a>>23&255 != 255 }

// withSign is a pattern that has no sign, with one.
func withSign(a api.F, minus bool) api.F {
	if minus {
		return a | 0x80000000
	}
	return a
}

// exact is the value of a finite pattern, by the chapter's section 'Words'; of the infinite ones what it would be, were there one exponent more.
func exact(a api.F) *big.Rat {
	e, m := int(a>>23&255), int64(a&0x7fffff)
	if e == 0 {
		e = 1
	} else {
		m += 1 << 23
	}
	n, d := big.NewInt(m), big.NewInt(1)
	if e >= 150 {
		n.Lsh(n, uint(e-150))
	} else {
		d.Lsh(d, uint(150-e))
	}
	if isMinus(a) {
		n.Neg(n)
	}
	return new(big.Rat).SetFrac(n, d)
}

// nearest is the rounded number, without its sign; against holds the exact value's size against v.
func nearest(against func(v *big.Rat) int) api.F {
	low, high := api.F(0), plusInf // low is at most the value, high above it (or infinite)
	for high-low > 1 {
		middle := low + (high-low)/2
		if against(exact(middle)) >= 0 {
			low = middle
		} else {
			high = middle
		}
	}
	half := new(big.Rat).Add(exact(low), exact(high))
	half.Quo(half, big.NewRat(2, 1))
	switch c := against(half); {
	case c < 0:
		return low
	case c > 0:
		return high
	}
	return low + low&1
}

// round is a number that is not 0, rounded.
func round(x *big.Rat) api.F {
	size := new(big.Rat).Abs(x)
	return withSign(nearest(size.Cmp), x.Sign() < 0)
}

// wantAdd: F1 and F2.
func wantAdd(a, b api.F) api.F {
	switch {
	case isNaN(a) || isNaN(b) || isInf(a) && isInf(b) && a != b:
		return nan
	case isInf(a):
		return a
	case isInf(b):
		return b
	}
	sum := new(big.Rat).Add(exact(a), exact(b))
	if sum.Sign() == 0 {
		return withSign(0, a == 0x80000000 && b == 0x80000000)
	}
	return round(sum)
}

// wantMul: F1 and F3.
func wantMul(a, b api.F) api.F {
	minus := isMinus(a) != isMinus(b)
	switch {
	case isNaN(a) || isNaN(b) || isInf(a) && isNought(b) || isNought(a) && isInf(b):
		return nan
	case isInf(a) || isInf(b):
		return withSign(plusInf, minus)
	case isNought(a) || isNought(b):
		return withSign(0, minus)
	}
	return round(new(big.Rat).Mul(exact(a), exact(b)))
}

// wantDiv: F1 and F4.
func wantDiv(a, b api.F) api.F {
	minus := isMinus(a) != isMinus(b)
	switch {
	case isNaN(a) || isNaN(b) || isInf(a) && isInf(b) || isNought(a) && isNought(b):
		return nan
	case isInf(a) || isNought(b):
		return withSign(plusInf, minus)
	case isInf(b) || isNought(a):
		return withSign(0, minus)
	}
	return round(new(big.Rat).Quo(exact(a), exact(b)))
}

// wantSqrt: F1 and F5.
func wantSqrt(a api.F) api.F {
	switch {
	case isNaN(a):
		return nan
	case isNought(a) || a == plusInf:
		return a
	case isMinus(a):
		return nan
	}
	x := exact(a)
	return nearest(func(v *big.Rat) int { return x.Cmp(new(big.Rat).Mul(v, v)) })
}

// below tells whether a stands ahead of b in the order, minus nought ahead of plus nought.
func below(a, b api.F) bool {
	if isMinus(a) != isMinus(b) {
		return isMinus(a)
	}
	if isMinus(a) {
		return a > b
	}
	return a < b
}
