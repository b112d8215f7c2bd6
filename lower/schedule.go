package lower

import (
	"lathe/api"
	"lathe/float"
)

// A schedule lowers one: its value at the step that a register holds.
type schedule struct {
	*builder
	*api.Sched
	step int
}

// valueAt is a schedule's value at the step that a register holds.
func valueAt(b *builder, s *api.Sched, step int) int {
	return schedule{b, s, step}.value()
}

func (s schedule) value() int {
	switch s.Op {
	case api.SchedPolynomial:
		return s.polynomial()
	case api.SchedExponential:
		return s.exponential()
	case api.SchedCosine:
		return s.cosine()
	case api.SchedPiecewise:
		return s.piecewise()
	case api.SchedJoin:
		return s.join()
	case api.SchedInverse:
		return s.inverse()
	case api.SchedPlus:
		return s.plus(s.kid(0, s.step), s.kid(1, s.step))
	case api.SchedTimes:
		return s.times(s.kid(0, s.step), s.kid(1, s.step))
	case api.SchedLeast:
		return s.least(s.kid(0, s.step), s.kid(1, s.step))
	case api.SchedMost:
		return s.most(s.kid(0, s.step), s.kid(1, s.step))
	case api.SchedAfter:
		return s.kid(0, s.since(s.Ints[0]))
	case api.SchedHold:
		return s.kid(0, s.upTo(s.step, s.Ints[0]))
	}
	return s.number(s.Nums[0]) // a constant
}

// kid is the value of one of Kids.
func (s schedule) kid(place, step int) int { return valueAt(s.builder, &s.Kids[place], step) }

// since is how many steps there have been since begin, 0 ahead of it.
func (s schedule) since(begin int) int { return s.wholes(api.OpMinus, s.step, s.whole(begin)) }

// upTo is n, at most limit.
func (s schedule) upTo(n, limit int) int {
	end := s.whole(limit)
	return s.wholes(api.OpChoose, s.wholes(api.OpLess2, n, end), n, end)
}

// share is n, at most steps, divided by steps.
func (s schedule) share(n, steps int) int {
	return s.over(s.from(s.upTo(n, steps)), s.number(float.FromInt(steps)))
}

func (s schedule) polynomial() int {
	a, b := s.Nums[0], s.Nums[1]
	power, steps, begin := s.Ints[0], s.Ints[1], s.Ints[2]
	left := s.minus(s.number(api.One), s.share(s.since(begin), steps))
	height := s.times(s.number(float.Sub(a, b)), s.power(left, s.whole(power)))
	return s.plus(height, s.number(b))
}

func (s schedule) exponential() int {
	a, rate := s.Nums[0], s.Nums[1]
	steps, begin := s.Ints[0], s.Ints[1]
	times := s.wholes(api.OpOver, s.since(begin), s.whole(steps))
	return s.times(s.number(a), s.power(s.number(rate), times))
}

func (s schedule) cosine() int {
	a, alpha := s.Nums[0], s.Nums[1]
	wave := s.wave(s.share(s.step, s.Ints[0]))
	w := s.times(s.number(api.Half), s.plus(s.number(api.One), wave))
	height := s.times(s.number(float.Sub(api.One, alpha)), w)
	return s.times(s.plus(height, s.number(alpha)), s.number(a))
}

// wave is sched's Wave of a number from 0 to 1.
func (s schedule) wave(x int) int {
	half := s.number(api.Half)
	isHigh := s.less(half, x)
	r := s.quarter(s.pick(isHigh, s.minus(s.number(api.One), x), x))
	notLow := s.pick(isHigh, s.neg(r), s.number(api.Zero)) // at a half it is +0, which the polynomial misses
	return s.pick(s.less(x, half), r, notLow)
}

// quarter is Wave's polynomial of a number from 0 to a half.
func (s schedule) quarter(t int) int {
	factors := [7]api.F{0x3afce9c5, 0xbcd368f9, 0x3e70fa83, 0xbfaae9e4, 0x4081e0f8, 0xc09de9e6, api.One}
	square := s.times(t, t)
	sum := s.number(factors[0])
	for _, next := range factors[1:] {
		sum = s.plus(s.times(sum, square), s.number(next))
	}
	return sum
}

// isAhead is 1, if the step is below a boundary, else 0: a number, as pick takes it.
func (s schedule) isAhead(boundary int) int {
	return s.from(s.wholes(api.OpLess2, s.step, s.whole(boundary)))
}

func (s schedule) piecewise() int {
	value := s.number(s.Nums[0])
	for i, boundary := range s.Ints {
		value = s.pick(s.isAhead(boundary), value, s.times(value, s.number(s.Nums[i+1])))
	}
	return value
}

func (s schedule) join() int {
	value := s.kid(0, s.step)
	for i, boundary := range s.Ints {
		value = s.pick(s.isAhead(boundary), value, s.kid(i+1, s.since(boundary)))
	}
	return value
}

func (s schedule) inverse() int {
	steps := s.whole(s.Ints[0])
	most := s.wholes(api.OpChoose, s.wholes(api.OpLess2, s.step, steps), steps, s.step)
	ratio := s.over(s.number(float.FromInt(s.Ints[0])), s.from(most))
	return s.times(s.number(s.Nums[0]), s.root(ratio))
}
