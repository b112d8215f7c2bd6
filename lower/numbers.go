package lower

import "lathe/api"

func (b *builder) number(a api.F) int {
	return b.set(numberType(), api.Inst{Op: api.OpNumber, Bits: a})
}

// apply is an elementwise instruction: a vector, if one of those that it reads is.
func (b *builder) apply(op int, args ...int) int {
	t := numberType()
	for _, x := range args {
		if b.code.Regs[x].Kind == api.TypeVector {
			t = b.code.Regs[x]
		}
	}
	return b.set(t, reading(op, args...))
}

func (b *builder) plus(x, y int) int  { return b.apply(api.OpAdd, x, y) }
func (b *builder) minus(x, y int) int { return b.apply(api.OpSub, x, y) }
func (b *builder) times(x, y int) int { return b.apply(api.OpMul, x, y) }
func (b *builder) over(x, y int) int  { return b.apply(api.OpDiv, x, y) }
func (b *builder) least(x, y int) int { return b.apply(api.OpMin, x, y) }
func (b *builder) most(x, y int) int  { return b.apply(api.OpMax, x, y) }
func (b *builder) less(x, y int) int  { return b.apply(api.OpLess, x, y) }
func (b *builder) root(x int) int     { return b.apply(api.OpSqrt, x) }
func (b *builder) neg(x int) int      { return b.apply(api.OpNeg, x) }

// pick is y where x holds, else z.
func (b *builder) pick(x, y, z int) int { return b.apply(api.OpSelect, x, y, z) }

// power is a number to the power of a whole number.
func (b *builder) power(x, n int) int {
	return b.set(numberType(), reading(api.OpPower, x, n))
}

// from is a whole number as a number.
func (b *builder) from(n int) int { return b.set(numberType(), reading(api.OpFrom, n)) }

func (b *builder) sum(x int) int { return b.set(numberType(), reading(api.OpSum, x)) }

func (b *builder) whole(n int) int { return b.set(wholeType(), api.Inst{Op: api.OpWhole, N: n}) }

// wholes is an instruction of whole numbers.
func (b *builder) wholes(op int, args ...int) int { return b.set(wholeType(), reading(op, args...)) }

// minusOne is -1.
const minusOne = api.One | api.Minus

// signOf is 1 or -1, but noughts and NaNs are themselves.
func (b *builder) signOf(x int) int {
	nought := b.number(api.Zero)
	below := b.pick(b.less(x, nought), b.number(minusOne), x)
	return b.pick(b.less(nought, x), b.number(api.One), below)
}

// leastNumber is the least one above 0.
const leastNumber api.F = 1

// isNought holds where x is one, of either sign; of a NaN it does not.
func (b *builder) isNought(x int) int {
	return b.less(b.apply(api.OpAbs, x), b.number(leastNumber))
}

// squares is the square of each element, of a complex one that of its absolute value.
func (b *builder) squares(a piece) int {
	sum := b.times(a.at[0], a.at[0])
	for _, x := range a.at[1:] {
		sum = b.plus(sum, b.times(x, x))
	}
	return sum
}

func (b *builder) total(a piece) int { return b.sum(b.squares(a)) }

// norm is the root of the total.
func (b *builder) norm(a piece) int { return b.root(b.total(a)) }
