package float

import (
	"math"
	"math/big"
	"sync"
	"testing"

	"lathe/api"
	"lathe/samples"
)

// holdRounded: F2 to F5 and F10 (rounding), against exact reckoning.
func holdRounded(t *testing.T, a, b api.F) {
	t.Helper()
	if got, want := Add(a, b), wantAdd(a, b); got != want {
		t.Errorf("Add(%08x, %08x) = %08x, want %08x", a, b, got, want)
	}
	if got, want := Mul(a, b), wantMul(a, b); got != want {
		t.Errorf("Mul(%08x, %08x) = %08x, want %08x", a, b, got, want)
	}
	if got, want := Div(a, b), wantDiv(a, b); got != want {
		t.Errorf("Div(%08x, %08x) = %08x, want %08x", a, b, got, want)
	}
}

func holdRoot(t *testing.T, a api.F) {
	t.Helper()
	if got, want := Sqrt(a), wantSqrt(a); got != want {
		t.Errorf("Sqrt(%08x) = %08x, want %08x", a, got, want)
	}
}

// TestRoundedEdges: each edge with each.
func TestRoundedEdges(t *testing.T) {
	all := append(edges(), nans()...)
	for _, a := range all {
		holdRoot(t, a)
		for _, b := range all {
			holdRounded(t, a, b)
		}
	}
}

// TestRoundedSpread: patterns from all over, and such as weigh in one sum, or whose product or quotient comes out about the least numbers.
func TestRoundedSpread(t *testing.T) {
	numbers := samples.Source(2)
	for range 1500 {
		a := numbers.Number()
		holdRoot(t, a)
		holdRounded(t, a, numbers.Number())
		holdRounded(t, a, numbers.Near(a, 26))
		holdRounded(t, a, numbers.Near(0, 2))
	}
	for range 1500 {
		a := numbers.Near(0x20000000, 60)
		small := (127 - a>>23&255) << 23 // times a: about the least normal number
		holdRounded(t, a, numbers.Near(small, 24))
		holdRounded(t, numbers.Near(0x00800000, 30), numbers.Near(0x3f800000, 30))
	}
}

// TestHalfway: sums, products and quotients that lie just between two numbers, of which the even one is told.
func TestHalfway(t *testing.T) {
	const threeHalves = api.F(0x3fc00000)
	numbers := samples.Source(3)
	for range 20000 {
		a, b := numbers.Next()&0x7fffff|0x3f800000, api.F(0x33800000) // b is the half of a's last place
		if got, want := Add(a, b), a+a&1; got != want {
			t.Errorf("Add(%08x, %08x) = %08x, want %08x", a, b, got, want)
		}
		m := numbers.Next()&0x1fffff | 0x800001 // odd, so that 3m/2 is halfway
		if got, want := Mul(m-0x800000+0x3f800000, threeHalves), evenHalf(3*m)-0x800000+0x3f800000; got != want {
			t.Errorf("Mul of the fraction %06x and 1.5 = %08x, want %08x", m, got, want)
		}
		f := numbers.Next()&0x7fffff | 1 // a subnormal, its half too
		if mul, div := Mul(f, api.Half), Div(f, api.Two); mul != evenHalf(f) || div != evenHalf(f) {
			t.Errorf("half of %08x: %08x, %08x, want %08x", f, mul, div, evenHalf(f))
		}
	}
}

// evenHalf is the even one of the two whole numbers about the half of an odd one.
func evenHalf(n api.F) api.F {
	low := n >> 1
	return low + low&1
}

// TestEveryRoot: F5 and F10 (rounding), all fractions at an even and at an odd exponent, and all subnormals: the other exponents are these, times a power of four.
func TestEveryRoot(t *testing.T) {
	var group sync.WaitGroup
	for _, start := range []api.F{0x00000001, 0x00400000, 0x3f800000, 0x3fc00000, 0x40000000, 0x40400000} {
		end := start&^0x3fffff + 0x400000
		group.Go(func() {
			for a := start; a < end; a++ {
				if root := Sqrt(a); !rootLiesNearest(a, root) {
					t.Errorf("Sqrt(%08x) = %08x", a, root)
					return
				}
			}
		})
	}
	group.Wait()
}

// rootLiesNearest: q * 2^f is the root of m * 2^e rounded, if m * 2^e lies between the squares of (q - 1/2) * 2^f and (q + 1/2) * 2^f. No root lies halfway, for its square would need more places than m has.
func rootLiesNearest(a, root api.F) bool {
	e, m := int(a>>23), uint64(a&0x7fffff)
	if e == 0 {
		e = 1
	} else {
		m += 1 << 23
	}
	f, q := int(root>>23), uint64(root&0x7fffff)+1<<23
	shift := e - 150 - 2*(f-150) + 2
	if shift < 0 || shift > 63 || m<<shift>>shift != m {
		return false
	}
	m <<= shift
	return (2*q-1)*(2*q-1) < m && m < (2*q+1)*(2*q+1)
}

// TestFromIntRounded: F7, about each power of two, each half of a last place, and where binary64 would round first.
func TestFromIntRounded(t *testing.T) {
	hold := func(n int) {
		t.Helper()
		want := api.Zero
		if n != 0 {
			want = round(new(big.Rat).SetInt64(int64(n)))
		}
		if got := FromInt(n); got != want {
			t.Errorf("FromInt(%d) = %08x, want %08x", n, got, want)
		}
	}
	for place := range 63 {
		for _, other := range []int{place - 23, place - 24, place - 25, place - 53, 0} {
			for step := -2; step <= 2; step++ {
				n := 1<<place + 1<<max(0, other) + step
				hold(n)
				hold(-n)
				hold(math.MaxInt64 - n)
			}
		}
	}
	numbers := samples.Source(4)
	for range 1000 {
		n := int(uint64(numbers.Next())<<32|uint64(numbers.Next())) >> (numbers.Next() >> 26)
		hold(n)
	}
	hold(math.MaxInt64)
	hold(math.MinInt64)
}
