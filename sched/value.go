package sched

import (
	"lathe/api"
	"lathe/float"
)

// at is the value at a step of a schedule that may be.
func at(s *api.Sched, step int) api.F {
	switch s.Op {
	case api.SchedPolynomial:
		return polynomial(s, step)
	case api.SchedExponential:
		return exponential(s, step)
	case api.SchedCosine:
		return cosine(s, step)
	case api.SchedPiecewise:
		return piecewise(s, step)
	case api.SchedJoin:
		return join(s, step)
	case api.SchedInverse:
		return inverse(s, step)
	case api.SchedPlus:
		return both(s, step, float.Add)
	case api.SchedTimes:
		return both(s, step, float.Mul)
	case api.SchedLeast:
		return both(s, step, float.Min)
	case api.SchedMost:
		return both(s, step, float.Max)
	case api.SchedAfter:
		return at(&s.Kids[0], max(step-s.Ints[0], 0))
	case api.SchedHold:
		return at(&s.Kids[0], min(step, s.Ints[0]))
	}
	return s.Nums[0] // a constant
}

// ratio is the quotient of two whole numbers, each rounded for itself.
func ratio(a, b int) api.F {
	return float.Div(float.FromInt(a), float.FromInt(b))
}

func polynomial(s *api.Sched, step int) api.F {
	a, b := s.Nums[0], s.Nums[1]
	power, steps, begin := s.Ints[0], s.Ints[1], s.Ints[2]
	done := min(max(step-begin, 0), steps)
	left := float.Sub(api.One, ratio(done, steps))
	return float.Add(float.Mul(float.Sub(a, b), float.Power(left, power)), b)
}

func exponential(s *api.Sched, step int) api.F {
	a, rate := s.Nums[0], s.Nums[1]
	steps, begin := s.Ints[0], s.Ints[1]
	return float.Mul(a, float.Power(rate, max(step-begin, 0)/steps))
}

func cosine(s *api.Sched, step int) api.F {
	a, alpha := s.Nums[0], s.Nums[1]
	steps := s.Ints[0]
	share := float.Mul(api.Half, float.Add(api.One, Wave(ratio(min(step, steps), steps))))
	return float.Mul(float.Add(float.Mul(float.Sub(api.One, alpha), share), alpha), a)
}

func piecewise(s *api.Sched, step int) api.F {
	value := s.Nums[0]
	for i, boundary := range s.Ints {
		if boundary > step {
			break
		}
		value = float.Mul(value, s.Nums[i+1])
	}
	return value
}

func join(s *api.Sched, step int) api.F {
	kid, begin := 0, 0
	for i, boundary := range s.Ints {
		if boundary > step {
			break
		}
		kid, begin = i+1, boundary
	}
	return at(&s.Kids[kid], step-begin)
}

func inverse(s *api.Sched, step int) api.F {
	steps := s.Ints[0]
	return float.Mul(s.Nums[0], float.Sqrt(ratio(steps, max(step, steps))))
}

// both joins the values of the two Kids.
func both(s *api.Sched, step int, operation func(a, b api.F) api.F) api.F {
	return operation(at(&s.Kids[0], step), at(&s.Kids[1], step))
}
