package mealy

import (
	"fmt"
	"maps"
	"math"

	"lathe/api"
	"lathe/sched"
)

// The chapter's words once more, over Go's own float32 and element by element: what is kept stands in one map, each number by
// itself, and is there from when it is first asked for. Nothing of the package stands here, nor of float, pair and vector.

// number is what a pattern means.
func number(a api.F) float32 { return math.Float32frombits(uint32(a)) }

// pattern is a number's bits, a NaN's those of the only one that is told.
func pattern(x float32) api.F {
	if x != x {
		return nan
	}
	return api.F(math.Float32bits(x))
}

func add(x, y float32) float32 { return float32(x + y) }
func sub(x, y float32) float32 { return float32(x - y) }
func mul(x, y float32) float32 { return float32(x * y) }
func div(x, y float32) float32 { return float32(x / y) }
func sqrt(x float32) float32   { return float32(math.Sqrt(float64(x))) }

// greater is the greater one, of noughts the one without the sign.
func greater(x, y float32) float32 {
	switch {
	case x != x || y != y:
		return number(nan)
	case x > y || x == y && math.Signbit(float64(y)):
		return x
	}
	return y
}

func lesser(x, y float32) float32 { return -greater(-x, -y) }

// raised: F7. Behind each bit it is the power of the bits so far, so it may as well be reckoned from the end.
func raised(x float32, n int) float32 {
	switch {
	case n < 1:
		return 1
	case n == 1:
		return x
	}
	r := raised(x, n/2)
	r = mul(r, r)
	if n%2 == 1 {
		r = mul(r, x)
	}
	return r
}

func signum(x float32) float32 {
	switch {
	case x > 0:
		return 1
	case x < 0:
		return -1
	}
	return x
}

// An element has one part, or two.
type element []float32

func square(x element) float32 {
	if len(x) == 1 {
		return mul(x[0], x[0])
	}
	return add(mul(x[0], x[0]), mul(x[1], x[1]))
}

// A slab is a piece, and whose it is.
type slab struct {
	param    int
	elements []element
}

func (s slab) total() float32 {
	sum := float32(0)
	for _, x := range s.elements {
		sum = add(sum, square(x))
	}
	return sum
}

// mapped makes another number of each part.
func (s slab) mapped(do func(place, part int, x float32) float32) slab {
	out := slab{param: s.param}
	for i, x := range s.elements {
		var y element
		for part := range x {
			y = append(y, do(i, part, x[part]))
		}
		out.elements = append(out.elements, y)
	}
	return out
}

func noughts(list []slab) []slab {
	return slabs(list, func(_ int, s slab) slab {
		return s.mapped(func(int, int, float32) float32 { return 0 })
	})
}

// slabs makes another one of each.
func slabs(list []slab, do func(i int, s slab) slab) []slab {
	var out []slab
	for i, s := range list {
		out = append(out, do(i, s))
	}
	return out
}

// norm is that of TxGlobalNorm.
func norm(list []slab) float32 {
	sum := float32(0)
	for _, s := range list {
		sum = add(sum, s.total())
	}
	return sqrt(sum)
}

// A cell is where one number is kept: of which transform, by which letter, of which part of which element of which piece.
type cell struct {
	path                 string
	letter               byte
	piece, element, part int
}

// words are a machine as the chapter tells it.
type words struct {
	top    api.Tx
	list   []api.Param
	count  int
	kept   map[cell]float32
	counts map[string]int // c, by the transform's path
	others map[string]int // n and e
}

func wordsOf(t api.Tx, list []api.Param) *words {
	return &words{t, list, 0, map[cell]float32{}, map[string]int{}, map[string]int{}}
}

func (w *words) clone() *words {
	c := *w
	c.kept, c.counts, c.others = maps.Clone(w.kept), maps.Clone(w.counts), maps.Clone(w.others)
	return &c
}

func (w *words) jump(count int) {
	w.count = count
	w.everyPath(w.top, "top", func(path string) { w.counts[path] = count })
}

func (w *words) everyPath(t api.Tx, path string, do func(path string)) {
	do(path)
	for i, kid := range t.Kids {
		w.everyPath(kid, kidPath(path, i), do)
	}
}

func kidPath(path string, i int) string { return fmt.Sprint(path, ".", i) }

func next(count int) int {
	if count == maxCount {
		return count
	}
	return count + 1
}

// step is ME2, of vectors that fit.
func (w *words) step(grads, params [][]api.F) [][]api.F {
	w.count = next(w.count)
	u := w.ask(w.top, "top", w.taken(grads), w.taken(params))
	out := make([][]api.F, len(u))
	for i, s := range u {
		for _, x := range s.elements {
			for _, part := range x {
				out[i] = append(out[i], pattern(part))
			}
		}
	}
	return out
}

func (w *words) taken(vectors [][]api.F) []slab {
	var out []slab
	for i, p := range w.list {
		s := slab{param: i}
		for len(s.elements) < p.Len {
			var x element
			for part := range p.Kind {
				x = append(x, number(vectors[i][len(s.elements)*p.Kind+part]))
			}
			s.elements = append(s.elements, x)
		}
		out = append(out, s)
	}
	return out
}

// ask is what a transform answers.
func (w *words) ask(t api.Tx, path string, g, p []slab) []slab {
	kid := func(i int, g, p []slab) []slab { return w.ask(t.Kids[i], kidPath(path, i), g, p) }
	before := w.counts[path]
	w.counts[path] = next(before)
	switch t.Op {
	case 3:
		value, _ := sched.Value(t.Sched, before)
		return slabs(g, func(_ int, s slab) slab {
			return s.mapped(func(_, _ int, x float32) float32 { return mul(number(value), x) })
		})
	case 5, 35:
		return w.askNormed(t, g)
	case 23:
		for i := range t.Kids {
			g = kid(i, g, p)
		}
		return g
	case 24, 25:
		return w.askParted(t, g, p, kid)
	case 26, 30:
		return w.askRound(t, path, g, p, kid)
	case 27:
		e := w.others[path] + 1
		if allFinite(g) {
			e = 0
		}
		w.others[path] = min(e, maxCount)
		if e == 0 || t.Ints[0] < w.others[path] {
			return kid(0, g, p)
		}
		return noughts(g)
	case 28:
		return unsplit(g, kid(0, splitUp(g), splitUp(p)))
	case 41:
		if norm(g) < number(t.Nums[0]) {
			return kid(0, g, p)
		}
		return noughts(g)
	case 42:
		if before < t.Ints[0] {
			return kid(0, g, p)
		}
		return kid(1, g, p)
	}
	return slabs(g, func(i int, s slab) slab { return w.askPiece(t, path, i, s, p[i], before) })
}

func allFinite(g []slab) bool {
	for _, s := range g {
		for _, x := range s.elements {
			for _, part := range x {
				if part-part != 0 {
					return false
				}
			}
		}
	}
	return true
}

func (w *words) askNormed(t api.Tx, g []slab) []slab {
	n, k := norm(g), number(t.Nums[0])
	return slabs(g, func(_ int, s slab) slab {
		return s.mapped(func(_, _ int, x float32) float32 {
			switch {
			case t.Op == 35:
				return mul(k, div(x, add(n, number(t.Nums[1]))))
			case n < k:
				return x
			}
			return mul(div(x, n), k)
		})
	})
}

// askParted asks each kid with those pieces that are in its mask and in none ahead of it; the last kid of a TxPartition has no mask.
func (w *words) askParted(t api.Tx, g, p []slab, kid func(i int, g, p []slab) []slab) []slab {
	owner := func(param int) int {
		for i, mask := range t.Masks {
			for _, m := range mask {
				if m == param {
					return i
				}
			}
		}
		return len(t.Masks)
	}
	u := append([]slab{}, g...)
	for i := range t.Kids {
		var places []int
		var own, ownParams []slab
		for place, s := range g {
			if owner(s.param) == i {
				places, own, ownParams = append(places, place), append(own, s), append(ownParams, p[place])
			}
		}
		for j, s := range kid(i, own, ownParams) {
			u[places[j]] = s
		}
	}
	return u
}

// askRound is TxMultiSteps and TxEvery.
func (w *words) askRound(t api.Tx, path string, g, p []slab, kid func(i int, g, p []slab) []slab) []slab {
	n := w.others[path] + 1
	ends := n == t.Ints[0]
	sum := slabs(g, func(i int, s slab) slab {
		return s.mapped(func(place, part int, x float32) float32 {
			at := cell{path, 'a', i, place, part}
			a := w.kept[at]
			if t.Op == 26 {
				a = add(a, div(sub(x, a), float32(n)))
			} else {
				a = add(a, x)
			}
			w.kept[at] = a
			if ends {
				w.kept[at] = 0
			}
			return a
		})
	})
	w.others[path] = n
	if !ends {
		return noughts(g)
	}
	w.others[path] = 0
	if t.Op == 26 {
		return kid(0, sum, p)
	}
	return sum
}

func splitUp(list []slab) []slab {
	var out []slab
	for _, s := range list {
		for part := range s.elements[0] {
			half := slab{param: s.param}
			for _, x := range s.elements {
				half.elements = append(half.elements, element{x[part]})
			}
			out = append(out, half)
		}
	}
	return out
}

// unsplit gives the answer's pieces the form of g's.
func unsplit(g, answer []slab) []slab {
	return slabs(g, func(_ int, s slab) slab {
		own := answer[:len(s.elements[0])]
		answer = answer[len(own):]
		return s.mapped(func(place, part int, _ float32) float32 { return own[part].elements[place][0] })
	})
}
