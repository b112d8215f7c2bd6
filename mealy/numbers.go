package mealy

import (
	"lathe/api"
	"lathe/float"
)

// numbers are real, one for each element of a piece; or a single one, which goes with all of them.
type numbers []api.F

// all is a number that goes with all elements.
func all(a api.F) numbers { return numbers{a} }

// filled is a number for each of so many elements.
func filled(size int, a api.F) numbers {
	out := make(numbers, size)
	for i := range out {
		out[i] = a
	}
	return out
}

// at is the number that goes with the element at a place.
func (n numbers) at(place int) api.F {
	if len(n) == 1 {
		return n[0]
	}
	return n[place]
}

func (n numbers) each(do func(a api.F) api.F) numbers {
	out := make(numbers, len(n))
	for i, a := range n {
		out[i] = do(a)
	}
	return out
}

// with takes each number with that of other for the same element.
func (n numbers) with(other numbers, do func(a, b api.F) api.F) numbers {
	out := make(numbers, len(n))
	for i, a := range n {
		out[i] = do(a, other.at(i))
	}
	return out
}

func (n numbers) plus(other numbers) numbers  { return n.with(other, float.Add) }
func (n numbers) minus(other numbers) numbers { return n.with(other, float.Sub) }
func (n numbers) times(other numbers) numbers { return n.with(other, float.Mul) }
func (n numbers) over(other numbers) numbers  { return n.with(other, float.Div) }
func (n numbers) most(other numbers) numbers  { return n.with(other, float.Max) }
func (n numbers) root() numbers               { return n.each(float.Sqrt) }

// signOf is 1 or -1, but noughts and NaNs are themselves.
func signOf(a api.F) api.F {
	switch {
	case float.Less(api.Zero, a):
		return api.One
	case float.Less(a, api.Zero):
		return float.Neg(api.One)
	}
	return a
}
