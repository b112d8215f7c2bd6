package check

import (
	"slices"

	"lathe/api"
)

// schedules are the rows of all schedules.
func schedules() []row {
	return slices.Concat(curves(), combinations())
}

func steps() argument { return whole("steps", 1, api.MaxCount) }

func begin() argument {
	a := whole("begin", 0, api.MaxCount)
	a.value = "0"
	return a
}

// boundary is a step at which a schedule of several pieces goes on to the next one.
func boundary() argument { return argument{sort: sortWhole, whole: rises} }

// curves are the schedules that have no other ones within.
func curves() []row {
	from, to := number("from", needed, anyNumber), number("to", needed, anyNumber)
	linear := rowOf("linear", api.SchedPolynomial, from, to, steps(), begin())
	linear.becomes = ofPowerOne
	return []row{
		rowOf("constant", api.SchedConstant, number("value", needed, anyNumber)),
		linear,
		rowOf("polynomial", api.SchedPolynomial, from, to, whole("power", 1, api.MaxPower), steps(), begin()),
		rowOf("exponential", api.SchedExponential, from, steps(), number("rate", needed, aboveZero), begin()),
		rowOf("cosine", api.SchedCosine, from, steps(), number("alpha", "0.0", anyNumber)),
		rowOf("inverse", api.SchedInverse, from, steps()),
		{
			name: "piecewise", op: api.SchedPiecewise,
			takes: []argument{number("", needed, anyNumber)},
			more:  []argument{boundary(), number("", needed, anyNumber)},
		},
	}
}

// combinations are the schedules of others.
func combinations() []row {
	a, b, inner := other("a", sortSchedule), other("b", sortSchedule), other("schedule", sortSchedule)
	warmup := rowOf("warmup", api.SchedJoin, number("peak", needed, anyNumber), steps(), other("then", sortSchedule))
	warmup.becomes = risingFirst
	return []row{
		rowOf("plus", api.SchedPlus, a, b),
		rowOf("times", api.SchedTimes, a, b),
		rowOf("least", api.SchedLeast, a, b),
		rowOf("most", api.SchedMost, a, b),
		rowOf("after", api.SchedAfter, whole("begin", 0, api.MaxCount), inner),
		rowOf("hold", api.SchedHold, inner, whole("steps", 0, api.MaxCount)),
		{
			name: "join", op: api.SchedJoin,
			takes: []argument{other("", sortSchedule)},
			more:  []argument{boundary(), other("", sortSchedule)},
		},
		warmup,
	}
}

// ofPowerOne are a linear schedule's parts as those of a polynomial one.
func ofPowerOne(p parts) parts {
	p.ints = append([]int{1}, p.ints...)
	return p
}

// risingFirst are a warmup's parts as those of a join: up to the peak, and then the schedule that was given.
func risingFirst(p parts) parts {
	up := api.Sched{Op: api.SchedPolynomial, Nums: []api.F{api.Zero, p.nums[0]}, Ints: []int{1, p.ints[0], 0}}
	return parts{ints: p.ints, scheds: []api.Sched{up, p.scheds[0]}}
}
