package pair

import (
	"lathe/api"
	"lathe/float"
	"lathe/samples"
)

const (
	plusInf  = api.F(0x7f800000)
	minusInf = api.F(0xff800000)
	nan      = api.F(0x7fc00000)
	minus    = api.F(0x80000000)
)

func c(re, im api.F) api.C {
	return api.C{Re: re, Im: im}
}

// whole is a number with whole parts.
func whole(re, im int) api.C {
	return c(float.FromInt(re), float.FromInt(im))
}

// each hands on every edge in every part, then numbers from all over, and such as weigh in one sum: ordinary ones, and those whose products are about the least and the greatest.
func each(take func(z, w api.C)) {
	all := samples.Edges()
	for _, a := range all {
		for _, b := range all {
			for _, d := range all {
				for _, e := range all {
					take(c(a, b), c(d, e))
				}
			}
		}
	}
	numbers := samples.Source(11)
	for range 50000 {
		take(c(numbers.Next(), numbers.Next()), c(numbers.Next(), numbers.Next()))
		for _, size := range []api.F{0x3f800000, 0x1e000000, 0x1b800000, 0x5f000000} {
			take(c(numbers.Near(size, 3), numbers.Near(size, 3)), c(numbers.Near(size, 3), numbers.Near(size, 3)))
		}
	}
}
