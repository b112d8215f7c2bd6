package pair

import (
	"testing"

	"lathe/api"
	"lathe/float"
	"lathe/samples"
)

// sameBut: the same but for the sign of parts that are noughts.
func sameBut(z, w api.C) bool {
	return (z.Re == w.Re || samples.IsNought(z.Re) && samples.IsNought(w.Re)) && (z.Im == w.Im || samples.IsNought(z.Im) && samples.IsNought(w.Im))
}

// TestLaws: PA5, what holds for all bits.
func TestLaws(t *testing.T) {
	each(func(z, w api.C) {
		product := Mul(z, w)
		if turned := Mul(w, z); turned != product {
			t.Errorf("Mul(%08x, %08x) = %08x, turned round %08x", z, w, product, turned)
		}
		if conj, of := Conj(product), Mul(Conj(z), Conj(w)); !sameBut(conj, of) {
			t.Errorf("%08x, %08x: Conj of Mul is %08x, Mul of Conj %08x", z, w, conj, of)
		}
		if square, of := Square(z), Mul(z, Conj(z)).Re; square != of {
			t.Errorf("Square(%08x) = %08x, as a product %08x", z, square, of)
		}
	})
}

// wholeProduct holds Mul against the product of Gaussian integers, which know one nought alone.
func wholeProduct(t *testing.T, a, b, c, d int) {
	t.Helper()
	z, w := whole(a, b), whole(c, d)
	product := Mul(z, w)
	if want := whole(a*c-b*d, a*d+b*c); !sameBut(product, want) {
		t.Errorf("(%d %+di) * (%d %+di) = %08x, want %08x", a, b, c, d, product, want)
	}
	square := (a*a + b*b) * (c*c + d*d)
	if square >= 1<<24 {
		return
	}
	got, of := Square(product), float.Mul(Square(z), Square(w))
	if got != float.FromInt(square) || of != got {
		t.Errorf("(%d %+di), (%d %+di): Square of Mul %08x, Mul of Square %08x, want %d", a, b, c, d, got, of, square)
	}
}

// TestWholeEdges: PA5, the least and the greatest in all parts.
func TestWholeEdges(t *testing.T) {
	all := []int{-2047, -2046, -1449, -1025, -1024, -63, -2, -1, 0, 1, 2, 3, 64, 1023, 1024, 1447, 2045, 2046, 2047}
	for _, a := range all {
		for _, b := range all {
			for _, c := range all {
				for _, d := range all {
					wholeProduct(t, a, b, c, d)
				}
			}
		}
	}
}

// TestWholeSpread: PA5, from all over, and small ones with their squares below 2^24.
func TestWholeSpread(t *testing.T) {
	numbers := samples.Source(14)
	for _, limit := range []int{2047, 2047, 2047, 64, 45, 8} {
		for range 100000 {
			wholeProduct(t, numbers.UpTo(limit), numbers.UpTo(limit), numbers.UpTo(limit), numbers.UpTo(limit))
		}
	}
	for range 100000 {
		wholeProduct(t, numbers.UpTo(2047), numbers.UpTo(2047), numbers.UpTo(2), numbers.UpTo(1))
	}
}

// TestWholeAll: PA5, all of the small ones.
func TestWholeAll(t *testing.T) {
	const limit = 12
	for a := -limit; a <= limit; a++ {
		for b := -limit; b <= limit; b++ {
			for c := -limit; c <= limit; c++ {
				for d := -limit; d <= limit; d++ {
					wholeProduct(t, a, b, c, d)
				}
			}
		}
	}
}
