package samples

import "lathe/api"

// Usual is code over three parameters, w real of three elements, z complex of two, u real of one. Its registers: 0 to 3 numbers, 4 to 7
// whole numbers, 8 to 11 vectors of w, 12 to 15 of z, 16 and 17 of u. Its slots, from 0 on with Keep, from 5 on without: a number, a whole
// number, a vector of w, of z, of u.
func Usual(text string) api.Code {
	c := api.Code{Sign: []api.Param{{Name: "w", Kind: 1, Len: 3}, {Name: "z", Kind: 2, Len: 2}, {Name: "u", Kind: 1, Len: 1}}, List: Read(text)}
	number, whole := api.Type{Kind: 1}, api.Type{Kind: 2}
	w, z, u := api.Type{Kind: 3}, api.Type{Kind: 3, Param: 1}, api.Type{Kind: 3, Param: 2}
	for _, t := range []api.Type{number, whole, w, z, u} {
		for range 4 - t.Param/2*2 {
			c.Regs = append(c.Regs, t)
		}
	}
	c.Slots = []api.Slot{
		{Type: number, Keep: true}, {Type: whole, Keep: true}, {Type: w, Keep: true}, {Type: z, Keep: true}, {Type: u, Keep: true},
		{Type: number, Bits: 0x80000000}, {Type: whole, Int: 9}, {Type: w, Bits: 0x7fc00000}, {Type: z, Bits: 0xff800000}, {Type: u, Bits: 0x40000000},
	}
	return c
}
