package float

import "lathe/api"

// edges are the patterns that the chapter names and their neighbours, in the order, no NaN among them.
func edges() []api.F {
	plus := []api.F{
		0x00000000, 0x00000001, 0x00000002, 0x00000003, 0x003fffff, 0x00400000, 0x00400001, 0x007ffffe, 0x007fffff,
		0x00800000, 0x00800001, 0x00ffffff, 0x01000000, 0x0c000000, 0x1f800000, 0x20000000, 0x33000000, 0x33800000, 0x33800001, 0x34000000,
		0x3effffff, 0x3f000000, 0x3f000001, 0x3f7fffff, 0x3f800000, 0x3f800001, 0x3f800002, 0x3fc00000,
		0x40000000, 0x40400000, 0x40490fdb, 0x4b7fffff, 0x4b800000, 0x4b800001, 0x5f000000, 0x5f800000,
		0x72ffffff, 0x73000000, 0x73000001, 0x7e800000, 0x7effffff, 0x7f000000, 0x7f7ffffe, 0x7f7fffff, 0x7f800000,
	}
	var all []api.F
	for i := len(plus) - 1; i >= 0; i-- {
		all = append(all, plus[i]|0x80000000)
	}
	return append(all, plus...)
}

// nans are of either sign, quiet ones and others.
func nans() []api.F {
	return []api.F{0x7f800001, 0x7fbfffff, 0x7fc00000, 0x7fc00001, 0x7fffffff, 0xff800001, 0xffbfffff, 0xffc00000, 0xffabcdef, 0xffffffff}
}

// A source gives patterns from all over, the same ones in each run.
type source uint64

func (s *source) next() api.F {
	*s = *s*6364136223846793005 + 1442695040888963407
	return api.F(*s >> 32)
}

// number is a pattern that is no NaN.
func (s *source) number() api.F {
	for {
		if a := s.next(); !isNaN(a) {
			return a
		}
	}
}

// near is a number whose exponent is at most reach from that of a, so that both weigh in a sum.
func (s *source) near(a api.F, reach int) api.F {
	e := int(a>>23&255) - reach + int(s.next()>>8)%(2*reach+1)
	e = max(0, min(e, 254))
	return s.next()&0x807fffff | api.F(e)<<23
}

// short has 12 leading bits at most.
func (s *source) short() api.F {
	return s.number() & 0xfffff000
}
