package sched

import (
	"testing"

	"lathe/api"
	"lathe/samples"
)

// TestPieces: SC1, at each boundary, just ahead of it and just behind it; boundaries that are neighbours, and far ones.
func TestPieces(t *testing.T) {
	near := piecesOf([]int{3, 4, 9}, one, 0x40000000, three, half)
	far := piecesOf([]int{1, maxCount - 1, maxCount}, three, half, 0x40000000, zero)
	holdPoints(t, []point{
		{near, 0, one}, {near, 2, one}, {near, 3, 0x40000000}, {near, 4, 0x40c00000}, {near, 5, 0x40c00000}, {near, 8, 0x40c00000}, {near, 9, three}, {near, 10, three}, {near, maxCount, three},
		{far, 0, three}, {far, 1, 0x3fc00000}, {far, 2, 0x3fc00000}, {far, maxCount - 2, 0x3fc00000}, {far, maxCount - 1, three}, {far, maxCount, zero},
	})
}

// TestPiecesRounded: SC1, the scales are multiplied in order, each product rounded for itself.
func TestPiecesRounded(t *testing.T) {
	for _, c := range []struct{ a, s1, s2, s3, at3, at4, at9 api.F }{
		{0x401bc4ec, 0x3fdb4710, 0x3f6f1812, 0x3f3798ce, 0x40856cb3, 0x40793a0d, 0x4032bd42},
		{0x3f620c01, 0x3fb6266d, 0x3f179e15, 0x3f1ce540, 0x3fa0d677, 0x3f3e83a4, 0x3ee985a7},
		{0x3fd2d956, 0x3fdf138f, 0x3fc9976e, 0x3ff21fc5, 0x4037bb6e, 0x4090aed8, 0x4108d73d},
		{0x3f660039, 0x3faef941, 0x3ffdbf37, 0x3ee64af1, 0x3f9d3417, 0x401bd1e6, 0x3f8c2c32},
		{most, 0x40000000, half, half, inf, inf, inf},
		{most, 0x40000000, zero, one, inf, nan, nan},
		{0x00000001, half, 0x40000000, most, zero, zero, zero},
	} {
		s := piecesOf([]int{3, 4, 9}, c.a, c.s1, c.s2, c.s3)
		holdPoints(t, []point{{s, 2, c.a}, {s, 3, c.at3}, {s, 4, c.at4}, {s, 8, c.at4}, {s, 9, c.at9}})
	}
}

// TestPiecesNoughts: SC1, factors and values that are noughts have their signs.
func TestPiecesNoughts(t *testing.T) {
	holdPoints(t, []point{
		{piecesOf([]int{1}, one, zero), 1, zero},
		{piecesOf([]int{1}, one, minus), 1, minus},
		{piecesOf([]int{1}, one|minus, zero), 1, minus},
		{piecesOf([]int{1}, one|minus, minus), 1, zero},
		{piecesOf([]int{1}, zero, one|minus), 1, minus},
		{piecesOf([]int{1}, minus, one), 0, minus},
		{piecesOf([]int{1}, minus, one), 1, minus},
		{piecesOf([]int{1}, minus, minus), 1, zero},
		{piecesOf([]int{1, 2, 3}, one, minus, one|minus, minus), 1, minus},
		{piecesOf([]int{1, 2, 3}, one, minus, one|minus, minus), 2, zero},
		{piecesOf([]int{1, 2, 3}, one, minus, one|minus, minus), 3, minus},
	})
}

// TestJoins: SC1, about each boundary; each of Kids begins anew there.
func TestJoins(t *testing.T) {
	s := joinOf([]int{5, 6, 100}, ramp(), ramp(), ramp(), ramp())
	last := joinOf([]int{maxCount}, constantOf(half), joinOf([]int{1}, constantOf(three), constantOf(one)))
	holdPoints(t, []point{
		{s, 0, zero}, {s, 1, one}, {s, 4, 0x40800000}, {s, 5, zero}, {s, 6, zero}, {s, 7, one}, {s, 99, 0x42ba0000}, {s, 100, zero}, {s, 101, one}, {s, 200, 0x42c80000},
		{last, maxCount - 1, half}, {last, maxCount, three},
		{joinOf([]int{1}, constantOf(half), ramp()), 0, half}, {joinOf([]int{1}, constantOf(half), ramp()), 1, zero}, {joinOf([]int{1}, constantOf(half), ramp()), 2, one},
		{joinOf([]int{maxCount - 1}, ramp(), ramp()), maxCount - 1, zero}, {joinOf([]int{maxCount - 1}, ramp(), ramp()), maxCount, one},
	})
}

// TestJoinsOfJoins: SC1, each boundary counts from where its own join begins.
func TestJoinsOfJoins(t *testing.T) {
	inner := joinOf([]int{2, 4}, constantOf(valueHalf(1)), constantOf(valueHalf(2)), ramp())
	s := joinOf([]int{3, 10}, inner, inner, joinOf([]int{1}, inner, inner))
	for step, want := range []api.F{
		valueHalf(1), valueHalf(1), valueHalf(2), // inner
		valueHalf(1), valueHalf(1), valueHalf(2), valueHalf(2), valueHalf(0), valueHalf(2), valueHalf(4), // from 3 on
		valueHalf(1),                                                                       // the first of the third one
		valueHalf(1), valueHalf(1), valueHalf(2), valueHalf(2), valueHalf(0), valueHalf(2), // the second of it
	} {
		holdValue(t, s, step, want)
	}
	first := joinOf([]int{6}, joinOf([]int{6}, ramp(), constantOf(half)), joinOf([]int{5}, ramp(), constantOf(half)))
	holdPoints(t, []point{{first, 5, 0x40a00000}, {first, 6, zero}, {first, 10, 0x40800000}, {first, 11, half}})
}

// TestAfterAndHold: SC1, about their own steps, and within one another.
func TestAfterAndHold(t *testing.T) {
	holdPoints(t, []point{
		{afterOf(3, ramp()), 0, zero}, {afterOf(3, ramp()), 2, zero}, {afterOf(3, ramp()), 3, zero}, {afterOf(3, ramp()), 4, one}, {afterOf(3, ramp()), 6, three},
		{afterOf(maxCount, ramp()), maxCount, zero}, {afterOf(maxCount-1, ramp()), maxCount, one}, {afterOf(maxCount-1, ramp()), maxCount - 1, zero}, {afterOf(maxCount, ramp()), 0, zero},
		{holdOf(ramp(), 3), 0, zero}, {holdOf(ramp(), 3), 1, one}, {holdOf(ramp(), 3), 3, three}, {holdOf(ramp(), 3), 4, three}, {holdOf(ramp(), 3), maxCount, three},
		{holdOf(ramp(), 0), 0, zero}, {holdOf(ramp(), 0), 1, zero}, {holdOf(ramp(), 0), maxCount, zero},
		{holdOf(inverseOf(one, 1), maxCount), maxCount, 0x37b504f3}, {holdOf(inverseOf(one, 1), maxCount-1), maxCount, 0x37b504f3},
		{afterOf(3, holdOf(ramp(), 2)), 4, one}, {afterOf(3, holdOf(ramp(), 2)), 5, 0x40000000}, {afterOf(3, holdOf(ramp(), 2)), 6, 0x40000000}, {afterOf(3, holdOf(ramp(), 2)), 3, zero},
		{holdOf(afterOf(3, ramp()), 5), 2, zero}, {holdOf(afterOf(3, ramp()), 5), 4, one}, {holdOf(afterOf(3, ramp()), 5), 5, 0x40000000}, {holdOf(afterOf(3, ramp()), 5), 6, 0x40000000},
		{holdOf(afterOf(3, ramp()), 2), 9, zero},
		{afterOf(2, afterOf(3, ramp())), 5, zero}, {afterOf(2, afterOf(3, ramp())), 6, one}, {afterOf(2, afterOf(3, ramp())), 3, zero},
		{afterOf(maxCount, afterOf(maxCount, ramp())), maxCount, zero},
		{holdOf(holdOf(ramp(), 3), 2), 9, 0x40000000}, {holdOf(holdOf(ramp(), 2), 3), 9, 0x40000000}, {holdOf(holdOf(ramp(), 2), 3), 1, one},
		{afterOf(4, joinOf([]int{2}, ramp(), constantOf(half))), 5, one}, {afterOf(4, joinOf([]int{2}, ramp(), constantOf(half))), 6, half},
		{joinOf([]int{4}, holdOf(ramp(), 1), afterOf(2, ramp())), 3, one}, {joinOf([]int{4}, holdOf(ramp(), 1), afterOf(2, ramp())), 6, zero}, {joinOf([]int{4}, holdOf(ramp(), 1), afterOf(2, ramp())), 7, one},
		{holdOf(joinOf([]int{2}, constantOf(half), ramp()), 3), 1, half}, {holdOf(joinOf([]int{2}, constantOf(half), ramp()), 3), 2, zero}, {holdOf(joinOf([]int{2}, constantOf(half), ramp()), 3), 9, one},
	})
}

// TestTwo: SC1, plus, times, least and most of numbers, of noughts of both signs, of what is infinite and of NaN.
func TestTwo(t *testing.T) {
	endless := exponentialOf(one, 0x40000000, 1, 0)   // infinite from the step 128 on
	noNumber := exponentialOf(zero, 0x40000000, 1, 0) // NaN from there on
	down := exponentialOf(one|minus, 0x40000000, 1, 0)
	c := constantOf
	for _, p := range []struct {
		a, b                     api.Sched
		sum, product, less, more api.F
	}{
		{c(one), c(three), 0x40800000, three, one, three},
		{c(0x3dcccccd), c(0x3e4ccccd), 0x3e99999a, 0x3ca3d70b, 0x3dcccccd, 0x3e4ccccd},
		{c(one), c(0x33800000), one, 0x33800000, 0x33800000, one},
		{c(one | minus), c(three), 0x40000000, three | minus, one | minus, three},
		{c(one), c(one | minus), zero, one | minus, one | minus, one},
		{c(zero), c(zero), zero, zero, zero, zero},
		{c(zero), c(minus), zero, minus, minus, zero},
		{c(minus), c(minus), minus, zero, minus, minus},
		{c(minus), c(one), one, minus, minus, one},
		{c(zero), c(one | minus), one | minus, minus, one | minus, zero},
		{c(most), c(most), inf, inf, most, most},
		{c(0x00000001), c(half), half, zero, 0x00000001, half},
		{endless, c(one), inf, inf, one, inf},
		{endless, c(zero), inf, nan, zero, inf},
		{endless, endless, inf, inf, inf, inf},
		{endless, down, nan, minus | inf, minus | inf, inf},
		{down, c(most), minus | inf, minus | inf, minus | inf, most},
		{noNumber, c(one), nan, nan, nan, nan},
		{noNumber, endless, nan, nan, nan, nan},
		{noNumber, noNumber, nan, nan, nan, nan},
	} {
		for i, want := range []api.F{p.sum, p.product, p.less, p.more} {
			holdValue(t, twoOf(opPlus+i, p.a, p.b), 128, want)
			holdValue(t, twoOf(opPlus+i, p.b, p.a), 128, want)
		}
	}
	for op := opPlus; op <= opMost; op++ {
		holdValue(t, twoOf(op, ramp(), ramp()), 3, []api.F{0x40c00000, 0x41100000, three, three}[op-opPlus])
		holdValue(t, twoOf(op, ramp(), afterOf(1, ramp())), 4, []api.F{0x40e00000, 0x41400000, three, 0x40800000}[op-opPlus])
	}
}

// TestTwoRounded: SC1, the inner values are rounded ahead of the outer ones, and stand where they stand.
func TestTwoRounded(t *testing.T) {
	tiny, c := constantOf(0x33800000), constantOf(one) // 2^-24
	holdPoints(t, []point{
		{twoOf(opPlus, twoOf(opPlus, c, tiny), tiny), 0, one},
		{twoOf(opPlus, c, twoOf(opPlus, tiny, tiny)), 0, 0x3f800001},
		{twoOf(opPlus, twoOf(opTimes, constantOf(0x3f800001), constantOf(0x3f800001)), constantOf(0xbf800002)), 0, zero},
		{twoOf(opTimes, twoOf(opTimes, constantOf(most), constantOf(0x40000000)), constantOf(half)), 0, inf},
		{twoOf(opTimes, constantOf(most), twoOf(opTimes, constantOf(0x40000000), constantOf(half))), 0, most},
	})
}

// TestOneNaN: rule 5, whatever makes one, no other NaN is told.
func TestOneNaN(t *testing.T) {
	wide := polynomialOf(most, most|minus, 1, 4, 0) // infinite, and NaN at its end
	grow := exponentialOf(zero, 0x40000000, 1, 0)
	all := []api.Sched{wide, grow, exponentialOf(minus, 0x40000000, 1, 0), piecesOf([]int{1, 2}, most, most, zero), piecesOf([]int{1, 2}, most, most, minus), twoOf(opPlus, wide, polynomialOf(most|minus, most, 1, 4, 0))}
	for _, s := range all {
		for _, s := range around(s) {
			for _, step := range []int{0, 1, 2, 3, 4, 5, 200, maxCount} {
				if got, _ := Value(s, step); !samples.IsTold(got) {
					t.Errorf("Value(%s, %d) = %08x", brief(s), step, got)
				}
			}
		}
		holdValue(t, s, 200, nan)
		holdValue(t, twoOf(opTimes, constantOf(one|minus), s), 200, nan)
		holdValue(t, joinOf([]int{5}, s, s), 205, nan)
	}
}
