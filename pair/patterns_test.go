package pair

import (
	"lathe/api"
	"lathe/float"
)

const (
	plusInf  = api.F(0x7f800000)
	minusInf = api.F(0xff800000)
	nan      = api.F(0x7fc00000)
	minus    = api.F(0x80000000)
)

func c(re, im api.F) api.C {
	return api.C{Re: re, Im: im}
}

// whole is a number with whole parts.
func whole(re, im int) api.C {
	return c(float.FromInt(re), float.FromInt(im))
}

// edges are noughts, subnormal numbers, ordinary ones, the greatest, infinite ones and NaNs, of both signs.
func edges() []api.F {
	var all []api.F
	for _, a := range []api.F{0, 0x00000001, 0x00000003, 0x007fffff, 0x00800000, 0x1a000000, 0x3f000000, 0x3f800000, 0x3f800800, 0x5f800000, 0x7f7fffff, plusInf, 0x7f800001, nan} {
		all = append(all, a, a|minus)
	}
	return all
}

// nans are of either sign, quiet ones and others; the one that is told is not among them.
func nans() []api.F {
	return []api.F{0x7f800001, 0x7fbfffff, 0x7fc00001, 0x7fffffff, 0xff800001, 0xffbfffff, 0xffc00000, 0xffabcdef, 0xffffffff}
}

// A source gives patterns from all over, the same ones in each run.
type source uint64

func (s *source) next() api.F {
	*s = *s*6364136223846793005 + 1442695040888963407
	return api.F(*s >> 32)
}

// near is a number whose exponent is at most reach from e, so that several of them weigh in one sum.
func (s *source) near(e, reach int) api.F {
	e += int(s.next()>>8)%(2*reach+1) - reach
	return s.next()&0x807fffff | api.F(max(0, min(e, 254)))<<23
}

// upTo is a whole number from -limit to limit.
func (s *source) upTo(limit int) int {
	return int(s.next()>>4)%(2*limit+1) - limit
}

// each hands on every edge in every part, then numbers from all over, and such as weigh in one sum: ordinary ones, and those whose products are about the least and the greatest.
func each(take func(z, w api.C)) {
	all := edges()
	for _, a := range all {
		for _, b := range all {
			for _, d := range all {
				for _, e := range all {
					take(c(a, b), c(d, e))
				}
			}
		}
	}
	numbers := source(11)
	for range 50000 {
		take(c(numbers.next(), numbers.next()), c(numbers.next(), numbers.next()))
		for _, e := range []int{127, 60, 55, 190} {
			take(c(numbers.near(e, 3), numbers.near(e, 3)), c(numbers.near(e, 3), numbers.near(e, 3)))
		}
	}
}

// isTold: rule 5.
func isTold(a api.F) bool {
	return a == nan || a&0x7fffffff <= plusInf
}

func isNought(a api.F) bool {
	return a&0x7fffffff == 0
}
