package mealy

import (
	"lathe/api"
	"lathe/float"
)

// mixable is what can be scaled and added: a piece, or numbers.
type mixable[T any] interface {
	times(by numbers) T
	plus(other T) T
}

// mix is (1 - d) of what is new, and d of what is old.
func mix[T mixable[T]](d api.F, fresh, old T) T {
	return fresh.times(all(float.Sub(api.One, d))).plus(old.times(all(d)))
}

// share is how much of a mix is not what it began with, so many steps on.
func share(d api.F, count int) numbers {
	return all(float.Sub(api.One, float.Power(d, count)))
}

func trace(d api.F, nesterov bool) rule {
	return func(g, _ piece, k kept, _ int) (piece, kept) {
		k.m = g.plus(k.m.times(all(d)))
		if nesterov {
			return g.plus(k.m.times(all(d))), k
		}
		return k.m, k
	}
}

func ema(d api.F, debias bool) rule {
	return func(g, _ piece, k kept, count int) (piece, kept) {
		k.m = mix(d, g, k.m)
		if debias {
			return k.m.over(share(d, on(count))), k
		}
		return k.m, k
	}
}

func adam(b1, b2, eps, root api.F) rule {
	return func(g, _ piece, k kept, count int) (piece, kept) {
		k.m, k.v = mix(b1, g, k.m), mix(b2, g.squares(), k.v)
		c := on(count)
		by := k.v.over(share(b2, c)).plus(all(root)).root().plus(all(eps))
		return k.m.over(share(b1, c)).over(by), k
	}
}

func byRms(d, eps api.F) rule {
	return func(g, _ piece, k kept, _ int) (piece, kept) {
		k.v = mix(d, g.squares(), k.v)
		return g.over(k.v.plus(all(eps)).root()), k
	}
}

func byRss(eps api.F) rule {
	return func(g, _ piece, k kept, _ int) (piece, kept) {
		k.v = k.v.plus(g.squares())
		u := g.over(k.v.plus(all(eps)).root())
		return u.where(func(place int) bool { return float.Less(api.Zero, k.v[place]) }), k
	}
}

func belief(b1, b2, eps, root api.F) rule {
	return func(g, _ piece, k kept, count int) (piece, kept) {
		k.m = mix(b1, g, k.m)
		k.v = mix(b2, g.minus(k.m).squares(), k.v).plus(all(root))
		c := on(count)
		return k.m.over(share(b1, c)).over(k.v.over(share(b2, c)).root().plus(all(eps))), k
	}
}

func yogi(b1, b2, eps api.F) rule {
	return func(g, _ piece, k kept, count int) (piece, kept) {
		k.m = mix(b1, g, k.m)
		q := g.squares()
		signs := k.v.minus(q).each(signOf)
		k.v = k.v.minus(signs.times(all(float.Sub(api.One, b2))).times(q))
		c := on(count)
		return k.m.over(share(b1, c)).over(k.v.over(share(b2, c)).root().plus(all(eps))), k
	}
}

func amsgrad(b1, b2, eps, root api.F) rule {
	return func(g, _ piece, k kept, count int) (piece, kept) {
		k.m, k.v = mix(b1, g, k.m), mix(b2, g.squares(), k.v)
		c := on(count)
		k.x = k.x.most(k.v.over(share(b2, c)))
		return k.m.over(share(b1, c)).over(k.x.plus(all(root)).root().plus(all(eps))), k
	}
}

func lion(b1, b2 api.F) rule {
	return func(g, _ piece, k kept, _ int) (piece, kept) {
		u := mix(b1, g, k.m).each(signOf)
		k.m = mix(b2, g, k.m)
		return u, k
	}
}

func adadelta(d, eps api.F) rule {
	return func(g, _ piece, k kept, _ int) (piece, kept) {
		k.v = mix(d, g.squares(), k.v)
		u := g.times(k.x.plus(all(eps)).root().over(k.v.plus(all(eps)).root()))
		k.x = mix(d, u.squares(), k.x)
		return u, k
	}
}

func adamax(b1, b2, eps api.F) rule {
	return func(g, _ piece, k kept, count int) (piece, kept) {
		k.m = mix(b1, g, k.m)
		k.x = g.squares().root().plus(all(eps)).most(k.x.times(all(b2)))
		return k.m.over(share(b1, on(count))).over(k.x), k
	}
}

func stddev(d, eps api.F) rule {
	return func(g, _ piece, k kept, _ int) (piece, kept) {
		k.m, k.v = mix(d, g, k.m), mix(d, g.squares(), k.v)
		return g.over(k.v.minus(k.m.squares()).plus(all(eps)).root()), k
	}
}

func novograd(b1, b2, eps, root, w api.F) rule {
	return func(g, p piece, k kept, count int) (piece, kept) {
		size := all(g.total())
		if count == 0 {
			k.v = size
		} else {
			k.v = mix(b2, size, k.v)
		}
		by := k.v.plus(all(root)).root().plus(all(eps))
		k.m = k.m.times(all(b1)).plus(g.over(by).plus(p.times(all(w))))
		return k.m, k
	}
}

func optimistic(a, b api.F) rule {
	return func(g, _ piece, k kept, _ int) (piece, kept) {
		u := g.times(all(float.Add(a, b))).minus(k.m.times(all(b)))
		k.m = g
		return u, k
	}
}
