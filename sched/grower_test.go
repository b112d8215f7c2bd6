package sched

import (
	"slices"
	"testing"

	"lathe/api"
	"lathe/samples"
)

// A grower makes schedules from all over.
type grower struct{ samples.Source }

// below is a whole number from 0 to limit - 1.
func (g *grower) below(limit int) int { return int(g.Next()>>3) % limit }

// number is finite: an ordinary one, an edge or any.
func (g *grower) number() api.F {
	switch g.below(8) {
	case 0:
		edges := slices.DeleteFunc(samples.Edges(), func(a api.F) bool { return a&inf == inf })
		return edges[g.below(len(edges))]
	case 1:
		return g.Near(one, 200)
	case 2:
		return one
	}
	return g.Near(one, 3)
}

// whole is from low to high: an end, a small one or any.
func (g *grower) whole(low, high int) int {
	switch g.below(8) {
	case 0:
		return low + g.below(2)
	case 1:
		return high - g.below(2)
	case 2:
		return low + int(g.Next())%(high-low+1)
	}
	return low + g.below(min(20, high-low+1))
}

// boundaries are k that rise.
func (g *grower) boundaries(k int) []int {
	var list []int
	for len(list) < k {
		list = append(list, g.whole(1, maxCount))
		slices.Sort(list)
		list = slices.Compact(list)
	}
	return list
}

// leaf is a schedule without Kids.
func (g *grower) leaf() api.Sched {
	switch g.below(6) {
	case 0:
		return constantOf(g.number())
	case 1:
		return polynomialOf(g.number(), g.number(), g.whole(1, maxPower), g.whole(1, maxCount), g.whole(0, maxCount))
	case 2:
		rate := g.number() &^ minus
		if rate == zero {
			rate = one
		}
		return exponentialOf(g.number(), rate, g.whole(1, maxCount), g.whole(0, maxCount))
	case 3:
		return cosineOf(g.number(), g.number(), g.whole(1, maxCount))
	case 4:
		s := piecesOf(g.boundaries(1+g.below(4)), g.number())
		for range s.Ints {
			s.Nums = append(s.Nums, g.number())
		}
		return s
	}
	return inverseOf(g.number(), g.whole(1, maxCount))
}

// schedule is one that may be, at most so deep.
func (g *grower) schedule(depth int) api.Sched {
	if depth == 1 || g.below(4) == 0 {
		return g.leaf()
	}
	switch g.below(4) {
	case 0:
		s := joinOf(g.boundaries(1+g.below(3)), g.schedule(depth-1))
		for range s.Ints {
			s.Kids = append(s.Kids, g.schedule(depth-1))
		}
		return s
	case 1:
		return afterOf(g.whole(0, maxCount), g.schedule(depth-1))
	case 2:
		return holdOf(g.schedule(depth-1), g.whole(0, maxCount))
	}
	return twoOf(opPlus+g.below(4), g.schedule(depth-1), g.schedule(depth-1))
}

// harm changes one thing of a schedule, or of one in it: most often so that it may not be.
func (g *grower) harm(s *api.Sched) {
	if len(s.Kids) > 0 && g.below(3) > 0 {
		g.harm(&s.Kids[g.below(len(s.Kids))])
		return
	}
	switch what := g.below(10); {
	case what == 0:
		s.Op = g.UpTo(15)
	case what == 1:
		s.Nums = append(s.Nums, g.number())
	case what == 2:
		s.Ints = append(s.Ints, g.whole(0, maxCount))
	case what == 3:
		s.Kids = append(s.Kids, g.leaf())
	case what == 4 && len(s.Nums) > 0:
		s.Nums = s.Nums[1:]
	case what == 5 && len(s.Ints) > 0:
		s.Ints = s.Ints[1:]
	case what == 6 && len(s.Kids) > 0:
		s.Kids = s.Kids[1:]
	case what == 7 && len(s.Nums) > 0:
		s.Nums[g.below(len(s.Nums))] = samples.Edges()[g.below(len(samples.Edges()))]
	case len(s.Ints) > 0:
		whole := []int{-1, 0, 1, 2, maxPower, maxPower + 1, maxCount, maxCount + 1, minInt, maxInt, s.Ints[0]}
		s.Ints[g.below(len(s.Ints))] = whole[g.below(len(whole))]
	default:
		*s = api.Sched{}
	}
}

// wholes are all of Ints of a schedule and of those in it.
func wholes(s api.Sched) []int {
	all := slices.Clone(s.Ints)
	for _, k := range s.Kids {
		all = append(all, wholes(k)...)
	}
	return all
}

// stepsAbout are steps at which something of a schedule may change, and their neighbours.
func stepsAbout(s api.Sched) []int {
	all := wholes(s)
	all = all[:min(len(all), 12)]
	steps := []int{0, 1, 2, 3, 10, 1000, 1 << 24, 1<<24 + 1, 1 << 30, maxCount - 1, maxCount}
	for i, n := range all {
		steps = append(steps, n-1, n, n+1, n/2)
		for _, m := range all[i+1:] {
			steps = append(steps, n+m-1, n+m, n+m+1)
		}
	}
	steps = slices.DeleteFunc(steps, func(n int) bool { return n < 0 || n > maxCount })
	slices.Sort(steps)
	return slices.Compact(steps)
}

// holdWords: Check and Value answer what the chapter's words say.
func holdWords(t *testing.T, s api.Sched, steps ...int) {
	t.Helper()
	if !wantMayBe(s) {
		holdCheck(t, brief(s), s, false)
		return
	}
	if e := Check(s); e != api.OK {
		t.Errorf("Check(%s) = %d", brief(s), e)
	}
	for _, step := range steps {
		holdValue(t, s, step, pattern(wantValue(s, step)))
	}
}

// TestWords: SC1, schedules from all over, as they are and with a fault.
func TestWords(t *testing.T) {
	g := &grower{samples.Source(14)}
	good, nans := 0, 0
	for i := range 30000 {
		s := g.schedule(1 + i%6)
		steps := stepsAbout(s)
		holdWords(t, s, append(steps, g.below(maxCount), g.below(100))...)
		for _, step := range steps {
			if valueOf(t, s, step) == nan {
				nans++
			}
		}
		harmed := copied(s)
		g.harm(&harmed)
		holdWords(t, harmed, stepsAbout(harmed)...)
		if wantMayBe(harmed) {
			good++
		}
		if t.Failed() {
			return
		}
	}
	if good < 1000 || good > 20000 || nans < 100 {
		t.Errorf("of the schedules that were changed %d may be; %d values were NaN", good, nans)
	}
}

// TestEachRowEachStep: SC1, small schedules of each row at all of their steps.
func TestEachRowEachStep(t *testing.T) {
	g := &grower{samples.Source(41)}
	for range 300 {
		a, b, steps, begin := g.number(), g.number(), 1+g.below(40), g.below(20)
		rate := g.Near(one, 2) &^ minus
		for _, s := range []api.Sched{
			constantOf(a),
			polynomialOf(a, b, 1+g.below(9), steps, begin),
			exponentialOf(a, rate, 1+steps/4, begin),
			cosineOf(a, b, steps),
			piecesOf([]int{1 + begin, 1 + begin + steps}, a, b, rate),
			joinOf([]int{1 + begin, 1 + begin + steps}, cosineOf(a, b, 9), inverseOf(b, 3), exponentialOf(b, rate, 2, 1)),
			inverseOf(a, steps),
			afterOf(begin, polynomialOf(a, b, 2, steps, 0)),
			holdOf(polynomialOf(a, b, 2, steps, 0), begin),
		} {
			for step := range begin + steps + 5 {
				holdValue(t, s, step, pattern(wantValue(s, step)))
			}
		}
	}
}
