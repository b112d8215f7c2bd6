// Package samples gives the layers' tests patterns to try: edges, NaNs, and numbers from all over that are the same ones in each run.
package samples

import "lathe/api"

// magnitude is all of a pattern but its sign.
const magnitude = api.Minus - 1

// Edges are noughts, subnormal numbers, ordinary ones, the greatest, infinite ones and NaNs, of both signs.
func Edges() []api.F {
	var all []api.F
	for _, a := range []api.F{0, 0x00000001, 0x00000003, 0x007fffff, 0x00800000, 0x1a000000, 0x3f000000, 0x3f800000, 0x3f800800, 0x5f800000, 0x7f7fffff, 0x7f800000, 0x7f800001, 0x7fc00000} {
		all = append(all, a, a|api.Minus)
	}
	return all
}

// NaNs are of either sign, quiet ones and others; the one that is told is not among them.
func NaNs() []api.F {
	return []api.F{0x7f800001, 0x7fbfffff, 0x7fc00001, 0x7fffffff, 0xff800001, 0xffbfffff, 0xffc00000, 0xffabcdef, 0xffffffff}
}

// IsNaN tells by the bits alone.
func IsNaN(a api.F) bool {
	return a&magnitude > 0x7f800000
}

// IsNought tells by the bits alone.
func IsNought(a api.F) bool {
	return a&magnitude == 0
}

// IsTold tells whether a call may answer it: rule 5.
func IsTold(a api.F) bool {
	return a == 0x7fc00000 || !IsNaN(a)
}

// A Source gives patterns from all over.
type Source uint64

// Next is any pattern.
func (s *Source) Next() api.F {
	*s = *s*6364136223846793005 + 1442695040888963407
	return api.F(*s >> 32)
}

// Number is a pattern that is no NaN.
func (s *Source) Number() api.F {
	for {
		if a := s.Next(); !IsNaN(a) {
			return a
		}
	}
}

// Near is a finite number whose exponent is at most reach from that of a, so that several of them weigh in one sum.
func (s *Source) Near(a api.F, reach int) api.F {
	exponent := int(a>>23&255) + int(s.Next()>>8)%(2*reach+1) - reach
	return s.Next()&0x807fffff | api.F(max(0, min(exponent, 254)))<<23
}

// UpTo is a whole number from -limit to limit.
func (s *Source) UpTo(limit int) int {
	return int(s.Next()>>4)%(2*limit+1) - limit
}

// List is n patterns, any.
func (s *Source) List(n int) []api.F {
	list := make([]api.F, n)
	for i := range list {
		list[i] = s.Next()
	}
	return list
}
