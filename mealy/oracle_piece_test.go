package mealy

import "lathe/api"

// askPiece is what a transform that works on each piece by itself answers.
func (w *words) askPiece(t api.Tx, path string, i int, g, p slab, before int) slab {
	n := make([]float32, 5)
	for j, a := range t.Nums {
		n[j] = number(a)
	}
	size := float32(len(g.elements))
	scaled := func(r float32) slab {
		return g.mapped(func(_, _ int, x float32) float32 { return mul(r, x) })
	}
	switch t.Op {
	case 6:
		r := greater(1, div(sqrt(div(g.total(), size)), n[0]))
		return g.mapped(func(_, _ int, x float32) float32 { return div(x, r) })
	case 17:
		a, b := greater(sqrt(p.total()), n[0]), greater(sqrt(g.total()), n[0])
		if a == 0 || b == 0 {
			return scaled(1)
		}
		return scaled(div(mul(n[1], a), add(b, n[2])))
	case 19:
		return centralized(g, size)
	case 22:
		return scaled(greater(sqrt(div(p.total(), size)), n[0]))
	case 34:
		return w.novograd(n, path, i, g, p, before)
	case 36:
		return scaled(greater(sqrt(p.total()), n[0]))
	case 37:
		r := sqrt(g.total())
		if r < n[0] {
			return g
		}
		return g.mapped(func(_, _ int, x float32) float32 { return mul(div(x, r), n[0]) })
	case 38:
		a, r := mul(n[0], greater(sqrt(p.total()), n[1])), sqrt(g.total())
		if r < a {
			return g
		}
		return g.mapped(func(_, _ int, x float32) float32 { return mul(div(x, greater(r, 1e-6)), a) })
	}
	flag := len(t.Ints) > 0 && t.Ints[0] == 1
	out := slab{param: g.param}
	for place := range g.elements {
		e := elementAt{w, path, i, place, t.Op, n, flag, g.elements[place], p.elements[place], before}
		out.elements = append(out.elements, e.answer())
	}
	return out
}

func centralized(g slab, size float32) slab {
	if size == 1 {
		return g
	}
	sums := make([]float32, 2)
	for _, x := range g.elements {
		for part := range x {
			sums[part] = add(sums[part], x[part])
		}
	}
	return g.mapped(func(_, part int, x float32) float32 { return sub(x, div(sums[part], size)) })
}

func (w *words) novograd(n []float32, path string, i int, g, p slab, before int) slab {
	at := cell{path, 's', i, 0, 0}
	s := g.total()
	if before != 0 {
		s = add(mul(sub(1, n[1]), s), mul(n[1], w.kept[at]))
	}
	w.kept[at] = s
	by := add(sqrt(add(s, n[3])), n[2])
	return g.mapped(func(place, part int, x float32) float32 {
		at := cell{path, 'm', i, place, part}
		w.kept[at] = add(mul(n[0], w.kept[at]), add(div(x, by), mul(n[4], p.elements[place][part])))
		return w.kept[at]
	})
}

// An elementAt is an element, and what a transform has to do with it.
type elementAt struct {
	w            *words
	path         string
	piece, place int
	op           int
	n            []float32
	flag         bool
	g, p         element
	before       int
}

// keep is what is kept by a letter, at the beginning begin; do makes its new value.
func (e *elementAt) keep(letter byte, part int, begin float32, do func(old float32) float32) float32 {
	at := cell{e.path, letter, e.piece, e.place, part}
	old, has := e.w.kept[at]
	if !has {
		old = begin
	}
	e.w.kept[at] = do(old)
	return e.w.kept[at]
}

func (e *elementAt) mixed(letter byte, part int, begin, d, x float32) float32 {
	return e.keep(letter, part, begin, func(old float32) float32 { return add(mul(sub(1, d), x), mul(d, old)) })
}

// parts is an answer, part by part.
func (e *elementAt) parts(do func(part int, x float32) float32) element {
	var u element
	for part, x := range e.g {
		u = append(u, do(part, x))
	}
	return u
}

// answer is that to transforms that keep nothing.
func (e *elementAt) answer() element {
	n := e.n
	return e.parts(func(part int, x float32) float32 {
		switch e.op {
		case 1:
			return x
		case 2:
			return mul(n[0], x)
		case 4:
			return lesser(greater(x, -n[0]), n[0])
		case 16:
			return signum(x)
		case 18:
			return add(x, mul(n[0], e.p[part]))
		case 20:
			if x != x {
				return 0
			}
			return x
		case 21:
			if add(e.p[part], x) < 0 {
				return -e.p[part]
			}
			return x
		case 29:
			return 0
		case 40:
			return sub(lesser(greater(add(e.p[part], x), n[0]), n[1]), e.p[part])
		}
		return e.keeping(part, x)
	})
}

// keeping is the answer's part of transforms that keep something. What is kept once for an element is made anew with its part 0.
func (e *elementAt) keeping(part int, x float32) float32 {
	n, q, c := e.n, square(e.g), next(e.before)
	once := func(letter byte, begin float32, do func(old float32) float32) float32 {
		if part > 0 {
			do = func(old float32) float32 { return old }
		}
		return e.keep(letter, 0, begin, do)
	}
	mixed := func(d, x float32) func(old float32) float32 {
		return func(old float32) float32 { return add(mul(sub(1, d), x), mul(d, old)) }
	}
	unbiased := func(x, d float32) float32 { return div(x, sub(1, raised(d, c))) }
	switch e.op {
	case 7:
		f := e.keep('m', part, 0, func(old float32) float32 { return add(x, mul(n[0], old)) })
		if e.flag {
			return add(x, mul(n[0], f))
		}
		return f
	case 8:
		m := e.mixed('m', part, 0, n[0], x)
		if e.flag {
			return unbiased(m, n[0])
		}
		return m
	case 9, 14:
		m, v := e.mixed('m', part, 0, n[0], x), unbiased(once('v', 0, mixed(n[1], q)), n[1])
		if e.op == 14 {
			v = once('x', 0, func(old float32) float32 { return greater(old, v) })
		}
		return div(unbiased(m, n[0]), add(sqrt(add(v, n[3])), n[2]))
	case 10:
		return div(x, sqrt(add(once('v', n[2], mixed(n[0], q)), n[1])))
	case 11:
		s := once('s', n[0], func(old float32) float32 { return add(old, q) })
		if !(0 < s) {
			return 0
		}
		return div(x, sqrt(add(s, n[1])))
	case 15:
		at := cell{e.path, 'm', e.piece, e.place, part}
		old := e.w.kept[at]
		e.w.kept[at] = mixed(n[1], x)(old)
		return signum(mixed(n[0], x)(old))
	case 39:
		at := cell{e.path, 'm', e.piece, e.place, part}
		old := e.w.kept[at]
		e.w.kept[at] = x
		return sub(mul(add(n[0], n[1]), x), mul(n[1], old))
	}
	return e.whole(part, x, once, mixed, unbiased)
}

// whole is the rest of them: those that ask for all parts of m, or of u, at once, or begin otherwise.
func (e *elementAt) whole(part int, x float32, once func(letter byte, begin float32, do func(old float32) float32) float32, mixed func(d, x float32) func(old float32) float32, unbiased func(x, d float32) float32) float32 {
	n, q := e.n, square(e.g)
	switch e.op {
	case 12:
		if part == 0 {
			off := e.parts(func(part int, x float32) float32 { return sub(x, e.mixed('m', part, 0, n[0], x)) })
			once('v', 0, func(old float32) float32 {
				return add(add(mul(sub(1, n[1]), square(off)), mul(n[1], old)), n[3])
			})
		}
		m, v := e.w.kept[cell{e.path, 'm', e.piece, e.place, part}], e.w.kept[cell{e.path, 'v', e.piece, e.place, 0}]
		return div(unbiased(m, n[0]), add(sqrt(unbiased(v, n[1])), n[2]))
	case 13:
		m := e.mixed('m', part, n[3], n[0], x)
		v := once('v', n[3], func(old float32) float32 {
			return sub(old, mul(mul(sub(1, n[1]), signum(sub(old, q))), q))
		})
		return div(unbiased(m, n[0]), add(sqrt(unbiased(v, n[1])), n[2]))
	case 31:
		v := once('v', 0, mixed(n[0], q))
		ratio := div(sqrt(add(e.w.kept[cell{e.path, 'x', e.piece, e.place, 0}], n[1])), sqrt(add(v, n[1])))
		u := e.parts(func(_ int, x float32) float32 { return mul(x, ratio) })
		if part == len(e.g)-1 {
			e.keep('x', 0, 0, mixed(n[0], square(u)))
		}
		return u[part]
	case 32:
		m := e.mixed('m', part, 0, n[0], x)
		return div(unbiased(m, n[0]), once('x', 0, func(old float32) float32 { return greater(add(sqrt(q), n[2]), mul(n[1], old)) }))
	case 33:
		if part == 0 {
			e.parts(func(part int, x float32) float32 { return e.mixed('m', part, 0, n[0], x) })
		}
		m := e.parts(func(part int, _ float32) float32 { return e.w.kept[cell{e.path, 'm', e.piece, e.place, part}] })
		v := once('v', n[2], mixed(n[0], q))
		return div(x, sqrt(add(sub(v, square(m)), n[1])))
	}
	panic("no row of this transform")
}
