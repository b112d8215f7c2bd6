package float

import (
	"math/big"
	"sync"
	"testing"

	"lathe/api"
	"lathe/samples"
)

// pairs hands on the edges with each other, then pairs from all over; with NaNs, if they are wanted.
func pairs(withNaNs bool, take func(a, b api.F)) {
	all := edges()
	if withNaNs {
		all = append(all, nans()...)
	}
	for _, a := range all {
		for _, b := range all {
			take(a, b)
		}
	}
	numbers := samples.Source(5)
	for range 20000 {
		a := numbers.Number()
		take(a, numbers.Number())
		take(a, numbers.Near(a, 25))
		take(a, numbers.Near(a, 1))
	}
}

// TestTurnedRound: F8.
func TestTurnedRound(t *testing.T) {
	pairs(true, func(a, b api.F) {
		if Add(a, b) != Add(b, a) || Mul(a, b) != Mul(b, a) || Min(a, b) != Min(b, a) || Max(a, b) != Max(b, a) || Equal(a, b) != Equal(b, a) {
			t.Errorf("%08x and %08x: not the same, exchanged", a, b)
		}
		if got, want := Mul(Neg(a), b), Neg(Mul(a, b)); got != want {
			t.Errorf("Mul(Neg(%08x), %08x) = %08x, want %08x", a, b, got, want)
		}
		if got, want := Div(Neg(a), b), Neg(Div(a, b)); got != want {
			t.Errorf("Div(Neg(%08x), %08x) = %08x, want %08x", a, b, got, want)
		}
		if got := Neg(Neg(a)); !isNaN(a) && got != a {
			t.Errorf("Neg(Neg(%08x)) = %08x", a, got)
		}
		if got := Sub(a, a); isFinite(a) && got != 0 {
			t.Errorf("Sub(%08x, itself) = %08x", a, got)
		}
	})
}

// atMost: neither is a NaN.
func atMost(a, b api.F) bool {
	return a == b || isNought(a) && isNought(b) || below(a, b)
}

// TestKeepOrder: F9.
func TestKeepOrder(t *testing.T) {
	numbers := samples.Source(6)
	pairs(false, func(a, b api.F) {
		if !atMost(a, b) {
			a, b = b, a
		}
		if x, y := Sqrt(a), Sqrt(b); !isNaN(x) && !isNaN(y) && !atMost(x, y) {
			t.Errorf("Sqrt(%08x) = %08x, Sqrt(%08x) = %08x", a, x, b, y)
		}
		for _, c := range []api.F{numbers.Number(), numbers.Near(a, 25), 0x80000000, 0xff7fffff, 0x7f7fffff, plusInf, minusInf} {
			if x, y := Add(a, c), Add(b, c); !isNaN(x) && !isNaN(y) && !atMost(x, y) {
				t.Errorf("Add(%08x, %08x) = %08x, Add(%08x, it) = %08x", a, c, x, b, y)
			}
			c &= 0x7fffffff
			if x, y := Mul(a, c), Mul(b, c); c != 0 && !isNaN(x) && !isNaN(y) && !atMost(x, y) {
				t.Errorf("Mul(%08x, %08x) = %08x, Mul(%08x, it) = %08x", a, c, x, b, y)
			}
		}
	})
}

// TestSterbenz: F10.
func TestSterbenz(t *testing.T) {
	seen := 0
	pairs(false, func(a, b api.F) {
		if !isFinite(a) || !isFinite(b) || isMinus(a) != isMinus(b) {
			return
		}
		x, y := exact(a&0x7fffffff), exact(b&0x7fffffff)
		two := big.NewRat(2, 1)
		if x.Cmp(new(big.Rat).Mul(two, y)) > 0 || y.Cmp(new(big.Rat).Mul(two, x)) > 0 {
			return
		}
		seen++
		got := Sub(a, b)
		if !isFinite(got) || exact(got).Cmp(new(big.Rat).Sub(exact(a), exact(b))) != 0 {
			t.Errorf("Sub(%08x, %08x) = %08x is not exact", a, b, got)
		}
	})
	if seen < 1000 {
		t.Errorf("only %d pairs", seen)
	}
}

// TestErrorOfSum: F10 (Moeller, Knuth).
func TestErrorOfSum(t *testing.T) {
	seen := 0
	pairs(false, func(a, b api.F) {
		s := Add(a, b)
		if !isFinite(a) || !isFinite(b) || !isFinite(s) {
			return
		}
		v := Sub(s, a)
		e := Add(Sub(a, Sub(s, v)), Sub(b, v))
		if !isFinite(v) || !isFinite(e) {
			return
		}
		seen++
		sum := new(big.Rat).Add(exact(a), exact(b))
		if sum.Cmp(new(big.Rat).Add(exact(s), exact(e))) != 0 {
			t.Errorf("%08x + %08x: %08x and %08x are not the sum", a, b, s, e)
		}
	})
	if seen < 1000 {
		t.Errorf("only %d pairs", seen)
	}
}

// TestShortProducts: F10 (Dekker).
func TestShortProducts(t *testing.T) {
	least := exact(0x00800000)
	most := exact(0x7f000000)
	numbers := samples.Source(8)
	seen := 0
	for range 40000 {
		a, b := numbers.Number()&0xfffff000, numbers.Number()&0xfffff000 // 12 leading bits at most
		if !isFinite(a) || !isFinite(b) {
			continue
		}
		product := new(big.Rat).Mul(exact(a), exact(b))
		size := new(big.Rat).Abs(product)
		if size.Sign() != 0 && (size.Cmp(least) < 0 || size.Cmp(most) > 0) {
			continue
		}
		seen++
		if got := Mul(a, b); !isFinite(got) || exact(got).Cmp(product) != 0 {
			t.Errorf("Mul(%08x, %08x) = %08x is not exact", a, b, got)
		}
	}
	if seen < 1000 {
		t.Errorf("only %d pairs", seen)
	}
}

// TestRootOfSquare: F10, |a| from 2^-60 to 2^60.
func TestRootOfSquare(t *testing.T) {
	const least, most = api.F(0x21800000), api.F(0x5d800000)
	hold := func(a api.F) {
		t.Helper()
		for _, x := range []api.F{a, a | 0x80000000} {
			if got := Sqrt(Mul(x, x)); got != a {
				t.Errorf("Sqrt of the square of %08x = %08x", x, got)
			}
		}
	}
	for a := least; a < most; a += 4099 {
		hold(a)
	}
	for near := range api.F(64) {
		hold(least + near)
		hold(most - near)
		hold(0x3f800000 + near)
		hold(0x3f800000 - near)
	}
}

// TestWholeNumbers: F10, all m and n from -4096 to 4096.
func TestWholeNumbers(t *testing.T) {
	step := 1
	if testing.Short() {
		step = 61
	}
	var group sync.WaitGroup
	const workers = 16
	for w := range workers {
		group.Go(func() {
			for m := -4096 + w; m <= 4096; m += workers {
				if n, ok := wholeNumbersHold(m, step); !ok {
					t.Errorf("%d and %d: their sum or their product", m, n)
					return
				}
			}
		})
	}
	group.Wait()
}

func wholeNumbersHold(m, step int) (int, bool) {
	x := FromInt(m)
	for n := -4096; n <= 4096; n += step {
		y := FromInt(n)
		if !sameBut(FromInt(m+n), Add(x, y)) || !sameBut(FromInt(m*n), Mul(x, y)) {
			return n, false
		}
	}
	return 0, true
}

// sameBut: the same but for the sign of a nought.
func sameBut(a, b api.F) bool {
	return a == b || isNought(a) && isNought(b)
}
