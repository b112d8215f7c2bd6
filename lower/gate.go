package lower

import "lathe/api"

// An answer is where a block hands out what a kid answers: slots that are +0 everywhere until then, in each step anew.
type answer struct {
	transform
	slots []piece
}

func (t transform) answer() answer {
	return answer{t, t.each(func(g piece) piece {
		return g.each(func(x int) int { return t.slot(api.Slot{Type: t.code.Regs[x]}) })
	})}
}

// ask asks a kid in a block, which is left out where x is 0.
func (a answer) ask(x, kid int, g []piece) {
	a.when(x, func() {
		for i, u := range a.kid(kid, g) {
			for j, y := range u.at {
				a.store(a.slots[i].at[j], y)
			}
		}
	})
}

// told is what stands in the slots.
func (a answer) told() []piece {
	out := make([]piece, len(a.slots))
	for i, s := range a.slots {
		out[i] = s.each(a.load)
	}
	return out
}

// askedWhere is what the only kid answers, where x is not 0, else +0.
func (t transform) askedWhere(x int, g []piece) []piece {
	a := t.answer()
	a.ask(x, 0, g)
	return a.told()
}

// round keeps how many steps of a round are done: how many with this one, and whether it ends the round. Then a new one begins.
func (t transform) round() (int, int) {
	var done, ends int
	t.renewed(wholeType(), api.Zero, func(old int) int {
		done = t.wholes(api.OpInc, old)
		ends = t.wholes(api.OpSame, done, t.whole(t.Ints[0]))
		return t.wholes(api.OpChoose, ends, t.whole(0), done)
	})
	return done, ends
}

// gathered is what the round's steps have come to with this one. It is kept until the round ends.
func (t transform) gathered(ends int, join func(a, x int) int) []piece {
	return t.each(func(g piece) piece {
		return g.each(func(x int) int {
			var sum int
			t.renewedLike(x, api.Zero, func(a int) int {
				sum = join(a, x)
				return t.pick(ends, t.number(api.Zero), sum)
			})
			return sum
		})
	})
}

func (t transform) multiSteps() []piece {
	done, ends := t.round()
	by := t.from(done)
	mean := t.gathered(t.from(ends), func(a, x int) int { return t.plus(a, t.over(t.minus(x, a), by)) })
	return t.askedWhere(ends, mean)
}

func (t transform) every() []piece {
	_, ends := t.round()
	isEnd := t.from(ends)
	sums := t.gathered(isEnd, t.plus)
	for i, a := range sums {
		sums[i] = a.each(func(x int) int { return t.pick(isEnd, x, t.number(api.Zero)) })
	}
	return sums
}

// areFinite is 1, if all numbers of all pieces are, else 0.
func (t transform) areFinite() int {
	least := t.number(api.One)
	for _, g := range t.g {
		for _, x := range g.at {
			least = t.least(least, t.set(numberType(), reading(api.OpLeast, t.apply(api.OpFinite, x))))
		}
	}
	return t.wholes(api.OpTest, least)
}

func (t transform) ifFinite() []piece {
	isFinite := t.areFinite()
	errors := t.renewed(wholeType(), api.Zero, func(old int) int {
		return t.wholes(api.OpChoose, isFinite, t.whole(0), t.wholes(api.OpInc, old))
	})
	tooMany := t.wholes(api.OpLess2, t.whole(t.Ints[0]), errors)
	return t.askedWhere(t.wholes(api.OpChoose, isFinite, isFinite, tooMany), t.g)
}

func (t transform) skipLarge() []piece {
	isLess := t.less(t.normOfAll(), t.number(t.Nums[0]))
	return t.askedWhere(t.wholes(api.OpTest, isLess), t.g)
}

func (t transform) until() []piece {
	ahead, _ := t.counted()
	isEarly := t.wholes(api.OpLess2, ahead, t.whole(t.Ints[0]))
	a := t.answer()
	a.ask(isEarly, 0, t.g)
	a.ask(t.wholes(api.OpNot, isEarly), 1, t.g)
	return a.told()
}
