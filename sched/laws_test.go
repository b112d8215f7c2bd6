package sched

import (
	"slices"
	"testing"

	"lathe/api"
	"lathe/check"
	"lathe/float"
	"lathe/samples"
)

// polynomials gives such as have a difference that is finite, with steps that rise, from 0 to beyond their end.
func polynomials(g *grower, count int, yield func(s api.Sched, steps []int)) {
	for i := range count {
		s := polynomialOf(g.number(), g.number(), g.whole(1, maxPower), g.whole(1, maxCount), g.whole(0, maxCount))
		switch i % 4 {
		case 0:
			s.Nums[1] = s.Nums[0] + api.F(g.UpTo(3)) // close to each other
		case 1:
			s.Ints[0] = 1 + g.below(4)
		}
		if !float.Finite(s.Nums[1]) || !float.Finite(float.Sub(s.Nums[0], s.Nums[1])) {
			continue
		}
		steps, begin := s.Ints[1], s.Ints[2]
		all := stepsAbout(s)
		for range 60 {
			all = append(all, min(begin+g.below(min(steps, 1<<28)), maxCount), min(begin+g.below(100), maxCount))
		}
		slices.Sort(all)
		yield(s, slices.Compact(all))
	}
}

// TestPolynomialGoesOneWay: SC3.
func TestPolynomialGoesOneWay(t *testing.T) {
	g := &grower{samples.Source(3)}
	polynomials(g, 10000, func(s api.Sched, steps []int) {
		falls := !float.Less(s.Nums[0], s.Nums[1])
		ahead := valueOf(t, s, 0)
		for _, step := range steps {
			value := valueOf(t, s, step)
			if !float.Finite(value) || falls && float.Less(ahead, value) || !falls && float.Less(value, ahead) {
				t.Errorf("%s at %d is %08x, ahead of it %08x", brief(s), step, value, ahead)
			}
			ahead = value
		}
	})
	for _, power := range []int{1, 2, 3, maxPower} {
		for _, ends := range [][2]api.F{{one, zero}, {zero, one}, {0x3dcccccd, 0xbf19999a}, {0x42c80000, 0x42c80001}} {
			s := polynomialOf(ends[0], ends[1], power, 3000, 10)
			for step := range 3100 {
				value, next := valueOf(t, s, step), valueOf(t, s, step+1)
				if float.Less(ends[1], ends[0]) && float.Less(value, next) || float.Less(ends[0], ends[1]) && float.Less(next, value) {
					t.Errorf("%s at %d is %08x, then %08x", brief(s), step, value, next)
				}
			}
		}
	}
}

// TestPolynomialEndsLaw: SC3, what it is up to begin, and from begin + steps on.
func TestPolynomialEndsLaw(t *testing.T) {
	g := &grower{samples.Source(33)}
	first, last := 0, 0
	polynomials(g, 10000, func(s api.Sched, all []int) {
		a, b, steps, begin := s.Nums[0], s.Nums[1], s.Ints[1], s.Ints[2]
		for _, step := range append(all, begin, min(begin+steps, maxCount)) {
			value := valueOf(t, s, step)
			if step <= begin {
				first++
				if value != float.Add(float.Sub(a, b), b) {
					t.Errorf("%s at %d is %08x", brief(s), step, value)
				}
			}
			if step >= begin+steps {
				last++
				if !float.Equal(value, b) {
					t.Errorf("%s at %d is %08x", brief(s), step, value)
				}
			}
		}
	})
	if first < 10000 || last < 10000 {
		t.Errorf("%d steps at the beginning, %d at the end", first, last)
	}
}

// TestJoinIsItsSchedules: SC3, each shifted.
func TestJoinIsItsSchedules(t *testing.T) {
	g := &grower{samples.Source(333)}
	for range 3000 {
		s := joinOf(g.boundaries(1+g.below(5)), g.schedule(3))
		for range s.Ints {
			s.Kids = append(s.Kids, g.schedule(3))
		}
		for _, step := range stepsAbout(s) {
			place, begin := 0, 0
			for i, b := range s.Ints {
				if b <= step {
					place, begin = i+1, b
				}
			}
			holdValue(t, s, step, valueOf(t, s.Kids[place], step-begin))
		}
	}
}

// TestPiecesOfOne: SC3, a piecewise schedule with the scales One is its a.
func TestPiecesOfOne(t *testing.T) {
	g := &grower{samples.Source(5)}
	for _, a := range append(samples.Edges(), g.number(), g.number(), g.number()) {
		if !float.Finite(a) {
			continue
		}
		for _, k := range []int{1, 2, 3, 10} {
			s := piecesOf(g.boundaries(k), a)
			for range k {
				s.Nums = append(s.Nums, one)
			}
			for _, step := range stepsAbout(s) {
				holdValue(t, s, step, a)
			}
		}
	}
}

// TestOrderOfKids: SC3, plus, times, least and most do not mind it.
func TestOrderOfKids(t *testing.T) {
	g := &grower{samples.Source(8)}
	for range 3000 {
		a, b := g.schedule(3), g.schedule(3)
		for op := opPlus; op <= opMost; op++ {
			s, turned := twoOf(op, a, b), twoOf(op, b, a)
			for _, step := range stepsAbout(s) {
				holdValue(t, turned, step, valueOf(t, s, step))
			}
		}
	}
	for _, a := range samples.Edges() {
		for _, b := range samples.Edges() {
			if !float.Finite(a) || !float.Finite(b) {
				continue
			}
			for i, want := range []api.F{float.Add(a, b), float.Mul(a, b), float.Min(a, b), float.Max(a, b)} {
				holdValue(t, twoOf(opPlus+i, constantOf(a), constantOf(b)), 0, want)
			}
		}
	}
}

// TestAfterNothing: SC3, after(0, s) is s; held at the end of all steps it is s too.
func TestAfterNothing(t *testing.T) {
	g := &grower{samples.Source(12)}
	for range 3000 {
		s := g.schedule(4)
		for _, step := range stepsAbout(s) {
			want := valueOf(t, s, step)
			holdValue(t, afterOf(0, s), step, want)
			holdValue(t, holdOf(s, maxCount), step, want)
		}
	}
}

// TestTypedPrograms: SC1, the schedules that may be are those of the typed programs that may be.
func TestTypedPrograms(t *testing.T) {
	g := &grower{samples.Source(13)}
	list := []api.Param{{Name: "w", Kind: api.KindReal, Len: 1}}
	for i := range 10000 {
		s := g.schedule(1 + i%5)
		if i%2 == 0 {
			g.harm(&s)
		}
		if e, valid := Check(s), check.Valid(api.Tx{Op: api.TxSchedule, Sched: s}, list); e != valid {
			t.Errorf("Check(%s) = %d, as a typed program's %d", brief(s), e, valid)
		}
	}
}
