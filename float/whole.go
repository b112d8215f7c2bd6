package float

import (
	mathbits "math/bits"

	"lathe/api"
	"lathe/bits"
)

// FromInt is a whole number, rounded.
func FromInt(n int) api.F {
	return pattern(float32(n))
}

// Power is a power, by squaring and multiplying from the high bit.
func Power(x api.F, n int) api.F {
	if n < 1 {
		return api.One
	}
	r := bits.Canon(x)
	for place := mathbits.Len(uint(n)) - 2; place >= 0; place-- {
		r = Mul(r, r)
		if n>>place&1 == 1 {
			r = Mul(r, x)
		}
	}
	return r
}
