package mealy

import (
	"slices"

	"lathe/api"
	"lathe/float"
	"lathe/sched"
)

// scheduled is a kind that scales by a schedule.
type scheduled struct {
	counter
	sched api.Sched
}

func (k *scheduled) step(g, _ []piece) []piece {
	s, _ := sched.Value(k.sched, k.count) // check took the schedule, so it may be
	k.countOn()
	u := make([]piece, len(g))
	for i := range g {
		u[i] = g[i].times(all(s))
	}
	return u
}

func (k *scheduled) clone() kind {
	c := *k
	return &c
}

// copied is a schedule in memory of its own.
func copied(s *api.Sched) api.Sched {
	c := api.Sched{Op: s.Op, Nums: slices.Clone(s.Nums), Ints: slices.Clone(s.Ints)}
	for i := range s.Kids {
		c.Kids = append(c.Kids, copied(&s.Kids[i]))
	}
	return c
}

// A round is of several steps, whose gradients are gathered.
type round struct {
	done, steps int
	sum         []piece
}

func roundOf(t *api.Tx, shapes []shape) round {
	r := round{steps: t.Ints[0], sum: make([]piece, len(shapes))}
	for i, s := range shapes {
		r.sum[i] = s.filled(api.Zero)
	}
	return r
}

// gather takes what is gathered with this step's, and tells whether the round ends with it; then a new one begins.
func (r *round) gather(sum []piece) bool {
	r.done++
	if r.done < r.steps {
		r.sum = sum
		return false
	}
	r.done, r.sum = 0, blanks(sum)
	return true
}

// multiSteps is a kind that asks its kid once in a round, with the round's mean.
type multiSteps struct {
	kids
	round
}

func (k *multiSteps) step(g, p []piece) []piece {
	by := all(float.FromInt(k.done + 1))
	mean := make([]piece, len(g))
	for i, a := range k.sum {
		mean[i] = a.plus(g[i].minus(a).over(by))
	}
	if !k.gather(mean) {
		return blanks(g)
	}
	return k.kids[0].step(mean, p)
}

func (k *multiSteps) clone() kind { return &multiSteps{k.clones(), k.round} }

// every is a kind that answers a round's sum.
type every struct {
	uncounted
	round
}

func (k *every) step(g, _ []piece) []piece {
	sum := make([]piece, len(g))
	for i, a := range k.sum {
		sum[i] = a.plus(g[i])
	}
	if !k.gather(sum) {
		return blanks(g)
	}
	return sum
}

func (k *every) clone() kind {
	c := *k
	return &c
}

// ifFinite is a kind that leaves out steps with numbers that are not finite, but not more than so many behind one another.
type ifFinite struct {
	kids
	most, errors int
}

func (k *ifFinite) step(g, p []piece) []piece {
	k.errors = on(k.errors)
	if areFinite(g) {
		k.errors = 0
	} else if k.errors <= k.most {
		return blanks(g)
	}
	return k.kids[0].step(g, p)
}

func (k *ifFinite) clone() kind { return &ifFinite{k.clones(), k.most, k.errors} }

// skipLarge is a kind that leaves out steps whose norm is not less than most.
type skipLarge struct {
	kids
	most api.F
}

func (k *skipLarge) step(g, p []piece) []piece {
	if float.Less(normOf(g), k.most) {
		return k.kids[0].step(g, p)
	}
	return blanks(g)
}

func (k *skipLarge) clone() kind { return &skipLarge{k.clones(), k.most} }

// until is a kind that asks its first kid for so many steps, and then the second one.
type until struct {
	counter
	kids
	steps int
}

func (k *until) step(g, p []piece) []piece {
	kid := k.kids[1]
	if k.count < k.steps {
		kid = k.kids[0]
	}
	k.countOn()
	return kid.step(g, p)
}

func (k *until) jump(count int) {
	k.counter.jump(count)
	k.kids.jump(count)
}

func (k *until) clone() kind { return &until{k.counter, k.clones(), k.steps} }
