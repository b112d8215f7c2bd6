package sched

import (
	"fmt"
	"slices"
	"sync"
	"testing"

	"lathe/api"
	"lathe/samples"
)

// roomy is the list in memory of its own, with something in the spare room behind it.
func roomy[T any](list []T, room ...T) []T {
	return append(slices.Clone(list), room...)[:len(list)]
}

func roomySched(s api.Sched) api.Sched {
	s.Nums, s.Ints, s.Kids = roomy(s.Nums, inf, 8), roomy(s.Ints, -7, 8), roomy(s.Kids, api.Sched{Op: 99})
	for i := range s.Kids {
		s.Kids[i] = roomySched(s.Kids[i])
	}
	return s
}

// opened is the list, with its spare room there for all to see.
func opened[T any](list []T) []T { return slices.Clone(list[:cap(list)]) }

func openedSched(s api.Sched) api.Sched {
	s.Nums, s.Ints, s.Kids = opened(s.Nums), opened(s.Ints), opened(s.Kids)
	for i := range s.Kids {
		s.Kids[i] = openedSched(s.Kids[i])
	}
	return s
}

// TestArgumentsStay: rule 3, no argument is changed, neither is its spare room, and what stands there is not asked.
func TestArgumentsStay(t *testing.T) {
	g := &grower{samples.Source(99)}
	for i := range 3000 {
		s := g.schedule(1 + i%5)
		if i%4 == 0 {
			g.harm(&s)
		}
		s = roomySched(s)
		before := fmt.Sprint(openedSched(s))
		holdWords(t, s, stepsAbout(s)...)
		for _, step := range []int{-1, maxCount + 1} {
			if got, e := Value(s, step); got != 0 || e != errArg {
				t.Errorf("Value(%s, %d) = %08x, %d", brief(s), step, got, e)
			}
		}
		if fmt.Sprint(openedSched(s)) != before {
			t.Errorf("%s was changed", brief(s))
		}
	}
}

// TestNothingIsKept: rules 3 and 4, a call answers the same again, whatever came ahead of it.
func TestNothingIsKept(t *testing.T) {
	s := twoOf(opPlus, joinOf([]int{4}, ramp(), cosineOf(one, half, 9)), piecesOf([]int{2}, one, half))
	want := valueOf(t, s, 6)
	for _, other := range append(rowsOf(), api.Sched{}, afterOf(-1, s), leaves(maxNodes+1)) {
		for _, step := range []int{0, 6, maxCount, -1, maxCount + 1} {
			_, _ = Value(other, step)
			_ = Check(other)
			_ = Wave(api.F(step))
			holdValue(t, s, 6, want)
			holdWave(t, 0x3e800000, 0x3f3504f4)
		}
	}
	changed := copied(s)
	holdValue(t, changed, 6, want)
	changed.Kids[1].Nums[1] = three
	changed.Kids[0].Ints[0] = 7
	holdWords(t, changed, 0, 1, 2, 6, 7, 8)
	changed.Kids[0] = api.Sched{}
	holdBad(t, changed)
	holdValue(t, s, 6, want)
}

// TestSideBySide: rule 4, calls that go on at the same time answer as they do alone.
func TestSideBySide(t *testing.T) {
	s := twoOf(opPlus, joinOf([]int{4}, ramp(), cosineOf(one, half, 9)), piecesOf([]int{2}, one, half))
	var want []api.F
	for step := range 20 {
		want = append(want, pattern(wantValue(s, step)))
	}
	var all sync.WaitGroup
	for range 8 {
		all.Go(func() {
			for range 100 {
				for step, value := range want {
					holdValue(t, s, step, value)
				}
				holdBad(t, holdOf(s, -1))
				holdWave(t, 0x3e800000, 0x3f3504f4)
			}
		})
	}
	all.Wait()
}
