package decimal

import (
	"math"
	"math/big"
	"math/rand/v2"
	"regexp"
	"testing"

	"lathe/api"
)

const (
	greatest    api.F = 0x7f7fffff
	leastNormal api.F = 0x00800000
	minus       api.F = 0x80000000
)

// form is the chapter's word 'a decimal'.
var form = regexp.MustCompile(`^-?[0-9]+(\.[0-9]+)?([eE][+-]?[0-9]+)?$`)

// exact is the value of a finite pattern.
func exact(a api.F) *big.Rat {
	return new(big.Rat).SetFloat64(float64(math.Float32frombits(uint32(a))))
}

// valueOf is the value of a decimal whose exponent is small.
func valueOf(t *testing.T, s string) *big.Rat {
	t.Helper()
	x, ok := new(big.Rat).SetString(s)
	if !ok {
		t.Fatalf("%q has no value", s)
	}
	return x
}

// rounded is the nearest number to x, which is positive, reckoned by the library's fractions: infinite, if x is beyond the greatest one.
func rounded(x *big.Rat) api.F {
	f, _ := x.Float32()
	return api.F(math.Float32bits(f))
}

// ten is 10^n.
func ten(n int) *big.Rat {
	size := new(big.Int).Exp(big.NewInt(10), big.NewInt(int64(max(n, -n))), nil)
	if n < 0 {
		return new(big.Rat).SetFrac(big.NewInt(1), size)
	}
	return new(big.Rat).SetInt(size)
}

// halfway lies between a and the number that follows it, or would follow it, were there one exponent more.
func halfway(a api.F) *big.Rat {
	distance := new(big.Rat).SetFrac(big.NewInt(1), big.NewInt(2))
	if a == greatest {
		distance.Mul(distance, new(big.Rat).Sub(exact(a), exact(a-1)))
	} else {
		distance.Mul(distance, new(big.Rat).Sub(exact(a+1), exact(a)))
	}
	return distance.Add(distance, exact(a))
}

// spread are positive numbers: the edges that the chapters name with their neighbours, all powers of two with theirs, the first subnormal ones, and some from all over, the same ones in each run.
func spread() []api.F {
	all := []api.F{
		0x003fffff, 0x00400000, 0x00400001, 0x007ffffe, 0x007fffff, 0x3dcccccd, 0x40490fdb, 0x4b800001, 0x4cbebc20, 0x501502f9, 0x7f7ffffe, greatest,
		0x49800002, 0x49800006, 0x4a000001, 0x4a000003, 0x48000008, 0x48000018, // as near to two texts
		0x224e0da8, 0x31795b17, 0x3255d836, 0x62e6b652, 0x64a5b080, // nearly so
		0x4c000004, 0x4c000005, 0x4c000009, 0x4c00000a, 0x4c3b81e2, 0x4c058296, // with texts halfway to the next number
		0x08be9882, 0x1f69f78e, 0x3dba3ebe, 0x045d25c0, 0x251718f6, 0x30718aa0, // with texts just beyond
	}
	for e := range api.F(255) {
		all = append(all, e<<23+1, e<<23+2, e<<23+0x7fffff)
		if e > 0 {
			all = append(all, e<<23)
		}
	}
	for place := range 23 {
		all = append(all, 1<<place, 3<<place>>1)
	}
	for a := range api.F(300) {
		all = append(all, a+1)
	}
	numbers := rand.New(rand.NewPCG(3, 1))
	for range 3000 {
		all = append(all, 1+api.F(numbers.Uint32N(uint32(greatest))))
	}
	for range 500 {
		all = append(all, 1+api.F(numbers.Uint32N(uint32(leastNormal))))
	}
	return all
}
