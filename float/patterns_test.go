package float

import (
	"lathe/api"
	"lathe/samples"
)

// edges are the patterns that the chapter names and their neighbours, in the order, no NaN among them.
func edges() []api.F {
	plus := []api.F{
		0x00000000, 0x00000001, 0x00000002, 0x00000003, 0x003fffff, 0x00400000, 0x00400001, 0x007ffffe, 0x007fffff,
		0x00800000, 0x00800001, 0x00ffffff, 0x01000000, 0x0c000000, 0x1f800000, 0x20000000, 0x33000000, 0x33800000, 0x33800001, 0x34000000,
		0x3effffff, 0x3f000000, 0x3f000001, 0x3f7fffff, 0x3f800000, 0x3f800001, 0x3f800002, 0x3fc00000,
		0x40000000, 0x40400000, 0x40490fdb, 0x4b7fffff, 0x4b800000, 0x4b800001, 0x5f000000, 0x5f800000,
		0x72ffffff, 0x73000000, 0x73000001, 0x7e800000, 0x7effffff, 0x7f000000, 0x7f7ffffe, 0x7f7fffff, 0x7f800000,
	}
	var all []api.F
	for i := len(plus) - 1; i >= 0; i-- {
		all = append(all, plus[i]|0x80000000)
	}
	return append(all, plus...)
}

// nans are of all kinds, the one that is told too.
func nans() []api.F {
	return append(samples.NaNs(), nan)
}
