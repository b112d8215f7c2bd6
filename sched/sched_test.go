package sched

import (
	"testing"

	"lathe/api"
	"lathe/samples"
)

// The document's numbers once more, so that a change of package api is seen.
const (
	zero  api.F = 0
	one   api.F = 0x3f800000
	half  api.F = 0x3f000000
	three api.F = 0x40400000
	minus api.F = 0x80000000
	inf   api.F = 0x7f800000
	nan   api.F = 0x7fc00000
	most  api.F = 0x7f7fffff

	errArg   api.Errno = 1
	maxDepth           = 64
	maxNodes           = 4096
	maxCount           = 1<<31 - 1
	maxPower           = 1 << 10

	maxInt = int(^uint(0) >> 1)
	minInt = -maxInt - 1
)

func constantOf(a api.F) api.Sched { return api.Sched{Op: 1, Nums: []api.F{a}} }

func polynomialOf(a, b api.F, power, steps, begin int) api.Sched {
	return api.Sched{Op: 2, Nums: []api.F{a, b}, Ints: []int{power, steps, begin}}
}

func exponentialOf(a, rate api.F, steps, begin int) api.Sched {
	return api.Sched{Op: 3, Nums: []api.F{a, rate}, Ints: []int{steps, begin}}
}

func cosineOf(a, alpha api.F, steps int) api.Sched {
	return api.Sched{Op: 4, Nums: []api.F{a, alpha}, Ints: []int{steps}}
}

func piecesOf(boundaries []int, nums ...api.F) api.Sched {
	return api.Sched{Op: 5, Nums: nums, Ints: boundaries}
}

func joinOf(boundaries []int, kids ...api.Sched) api.Sched {
	return api.Sched{Op: 6, Ints: boundaries, Kids: kids}
}

func inverseOf(a api.F, steps int) api.Sched {
	return api.Sched{Op: 7, Nums: []api.F{a}, Ints: []int{steps}}
}

// Of two schedules.
const (
	opPlus  = 8
	opTimes = 9
	opLeast = 10
	opMost  = 11
)

func twoOf(op int, a, b api.Sched) api.Sched { return api.Sched{Op: op, Kids: []api.Sched{a, b}} }

func afterOf(begin int, s api.Sched) api.Sched {
	return api.Sched{Op: 12, Ints: []int{begin}, Kids: []api.Sched{s}}
}

func holdOf(s api.Sched, steps int) api.Sched {
	return api.Sched{Op: 13, Ints: []int{steps}, Kids: []api.Sched{s}}
}

// ramp is n at the step n, as far as that is exact.
func ramp() api.Sched { return polynomialOf(zero, 0x4b800000, 1, 1<<24, 0) }

// A point is a schedule's value at a step.
type point struct {
	s    api.Sched
	step int
	want api.F
}

func holdPoints(t *testing.T, points []point) {
	t.Helper()
	for _, p := range points {
		holdValue(t, p.s, p.step, p.want)
	}
}

func holdValue(t *testing.T, s api.Sched, step int, want api.F) {
	t.Helper()
	if got, e := Value(s, step); got != want || e != api.OK {
		t.Errorf("Value(%s, %d) = %08x, %d, want %08x", brief(s), step, got, e, want)
	}
}

// valueOf is the value of a schedule that may be.
func valueOf(t *testing.T, s api.Sched, step int) api.F {
	t.Helper()
	got, e := Value(s, step)
	if e != api.OK || !samples.IsTold(got) {
		t.Errorf("Value(%s, %d) = %08x, %d", brief(s), step, got, e)
	}
	return got
}

// TestExamples: SC1, the chapter's examples.
func TestExamples(t *testing.T) {
	fall := polynomialOf(one, zero, 1, 4, 2)
	slow := exponentialOf(one, half, 10, 5)
	wave := cosineOf(0x40000000, zero, 4)
	pieces := piecesOf([]int{100, 200}, one, 0x3dcccccd, 0x3dcccccd)
	joined := joinOf([]int{5}, constantOf(one), fall)
	roots := inverseOf(one, 4)
	holdPoints(t, []point{
		{fall, 0, one}, {fall, 2, one}, {fall, 3, 0x3f400000}, {fall, 4, half}, {fall, 6, zero}, {fall, 9, zero},
		{slow, 0, one}, {slow, 14, one}, {slow, 15, half}, {slow, 25, 0x3e800000},
		{wave, 0, 0x40000000}, {wave, 2, one}, {wave, 4, zero}, {wave, 9, zero},
		{pieces, 99, one}, {pieces, 100, 0x3dcccccd}, {pieces, 200, 0x3c23d70b},
		{joined, 4, one}, {joined, 5, one}, {joined, 8, 0x3f400000},
		{roots, 0, one}, {roots, 4, one}, {roots, 16, half},
	})
	for step, want := range []api.F{one, 0x3f5a827a, half, 0x3e15f618} { // the fourth example of the whole
		holdValue(t, cosineOf(one, zero, 4), step, want)
	}
	for _, s := range []api.Sched{fall, slow, wave, pieces, joined, roots} {
		if e := Check(s); e != api.OK {
			t.Errorf("Check(%s) = %d", brief(s), e)
		}
	}
	if got := Wave(0x3e800000); got != 0x3f3504f4 {
		t.Errorf("Wave of a quarter is %08x", got)
	}
}
