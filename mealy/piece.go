package mealy

import (
	"math"

	"lathe/api"
	"lathe/float"
	"lathe/pair"
	"lathe/vector"
)

// A piece is what a transform works on of one parameter: its elements, real ones or complex ones; the other list is empty.
// Nothing is written into a piece once it is made: what is kept, handed on and answered may be the same one.
type piece struct {
	reals numbers
	pairs []complex64
}

// complexOf is a complex number as it is held.
func complexOf(z api.C) complex64 {
	return complex(math.Float32frombits(uint32(z.Re)), math.Float32frombits(uint32(z.Im)))
}

// partsOf is a complex number as its two patterns.
func partsOf(z complex64) api.C {
	return api.C{Re: api.F(math.Float32bits(real(z))), Im: api.F(math.Float32bits(imag(z)))}
}

func (a piece) isComplex() bool { return len(a.pairs) > 0 }

// size is how many elements there are.
func (a piece) size() int { return len(a.reals) + len(a.pairs) }

// length is how many there are, as a number.
func (a piece) length() api.F { return float.FromInt(a.size()) }

// eachPair makes another complex number of each.
func (a piece) eachPair(do func(place int, z api.C) api.C) []complex64 {
	out := make([]complex64, len(a.pairs))
	for i, z := range a.pairs {
		out[i] = complexOf(do(i, partsOf(z)))
	}
	return out
}

// each makes another number of each part of each element.
func (a piece) each(do func(part api.F) api.F) piece {
	return piece{a.reals.each(do), a.eachPair(func(_ int, z api.C) api.C {
		return api.C{Re: do(z.Re), Im: do(z.Im)}
	})}
}

func (a piece) plus(b piece) piece {
	return piece{a.reals.plus(b.reals), a.eachPair(func(place int, z api.C) api.C {
		return pair.Add(z, partsOf(b.pairs[place]))
	})}
}

func (a piece) minus(b piece) piece {
	return piece{a.reals.minus(b.reals), a.eachPair(func(place int, z api.C) api.C {
		return pair.Sub(z, partsOf(b.pairs[place]))
	})}
}

func (a piece) times(by numbers) piece {
	return piece{a.reals.times(by), a.eachPair(func(place int, z api.C) api.C {
		return pair.Scale(z, by.at(place))
	})}
}

func (a piece) over(by numbers) piece {
	return piece{a.reals.over(by), a.eachPair(func(place int, z api.C) api.C {
		return api.C{Re: float.Div(z.Re, by.at(place)), Im: float.Div(z.Im, by.at(place))}
	})}
}

// where has +0 in the place of each element of which holds says no.
func (a piece) where(holds func(place int) bool) piece {
	out := blank(a)
	for i := range out.reals {
		if holds(i) {
			out.reals[i] = a.reals[i]
		}
	}
	for i := range out.pairs {
		if holds(i) {
			out.pairs[i] = a.pairs[i]
		}
	}
	return out
}

// squares is the square of each element, of a complex one that of its absolute value.
func (a piece) squares() numbers {
	if !a.isComplex() {
		return a.reals.times(a.reals)
	}
	out := make(numbers, len(a.pairs))
	for i, z := range a.pairs {
		out[i] = pair.Square(partsOf(z))
	}
	return out
}

func (a piece) total() api.F { return vector.Sum(a.squares()) }

// norm is the root of the total.
func (a piece) norm() api.F { return float.Sqrt(a.total()) }

// areFinite tells whether all numbers of all pieces are.
func areFinite(list []piece) bool {
	for _, a := range list {
		re, im := a.split()
		if !vector.Finite(a.reals) || !vector.Finite(re.reals) || !vector.Finite(im.reals) {
			return false
		}
	}
	return true
}

// split is a complex piece as two real ones: the real parts, and the imaginary ones.
func (a piece) split() (piece, piece) {
	re, im := make(numbers, len(a.pairs)), make(numbers, len(a.pairs))
	for i, z := range a.pairs {
		parts := partsOf(z)
		re[i], im[i] = parts.Re, parts.Im
	}
	return piece{reals: re}, piece{reals: im}
}

// joined is split turned round.
func joined(re, im piece) piece {
	pairs := make([]complex64, len(re.reals))
	for i := range pairs {
		pairs[i] = complexOf(api.C{Re: re.reals[i], Im: im.reals[i]})
	}
	return piece{pairs: pairs}
}

// blank is +0 in the form of a piece.
func blank(a piece) piece {
	return piece{make(numbers, len(a.reals)), make([]complex64, len(a.pairs))}
}

func blanks(list []piece) []piece {
	out := make([]piece, len(list))
	for i, a := range list {
		out[i] = blank(a)
	}
	return out
}

// pieces are vectors that fit a signature, canonical.
func pieces(list []api.Param, vectors [][]api.F) []piece {
	out := make([]piece, len(list))
	for i := range list {
		out[i].reals = vector.Canon(vectors[i])
		if list[i].Kind == api.KindComplex {
			out[i] = paired(out[i].reals)
		}
	}
	return out
}

// paired is a complex piece of parts in turns.
func paired(parts []api.F) piece {
	list, _ := pair.Pairs(parts)
	pairs := make([]complex64, len(list))
	for i, z := range list {
		pairs[i] = complexOf(z)
	}
	return piece{pairs: pairs}
}

// vectors are pieces in memory of its own, of complex ones the parts in turns.
func vectors(list []piece) [][]api.F {
	out := make([][]api.F, len(list))
	for i, a := range list {
		flat := a.reals
		if a.isComplex() {
			flat = a.flat()
		}
		out[i] = vector.Canon(flat)
	}
	return out
}

func (a piece) flat() []api.F {
	list := make([]api.C, len(a.pairs))
	for i, z := range a.pairs {
		list[i] = partsOf(z)
	}
	return pair.Flat(list)
}
