package samples

import "lathe/api"

// Usual is code over three parameters, w real of three elements, z complex of two, u real of one. Its registers: 0 to 3 numbers, 4 to 7
// whole numbers, 8 to 11 vectors of w, 12 to 15 of z, 16 and 17 of u. Its slots, from 0 on with Keep, from 5 on without: a number, a whole
// number, a vector of w, of z, of u.
func Usual(text string) api.Code {
	c := api.Code{Sign: []api.Param{{Name: "w", Kind: 1, Len: 3}, {Name: "z", Kind: 2, Len: 2}, {Name: "u", Kind: 1, Len: 1}}, List: Read(text)}
	number, whole := api.Type{Kind: 1}, api.Type{Kind: 2}
	w, z, u := api.Type{Kind: 3}, api.Type{Kind: 3, Param: 1}, api.Type{Kind: 3, Param: 2}
	for _, t := range []api.Type{number, whole, w, z, u} {
		for range 4 - t.Param/2*2 {
			c.Regs = append(c.Regs, t)
		}
	}
	c.Slots = []api.Slot{
		{Type: number, Keep: true}, {Type: whole, Keep: true}, {Type: w, Keep: true}, {Type: z, Keep: true}, {Type: u, Keep: true},
		{Type: number, Bits: 0x80000000}, {Type: whole, Int: 9}, {Type: w, Bits: 0x7fc00000}, {Type: z, Bits: 0xff800000}, {Type: u, Bits: 0x40000000},
	}
	return c
}

// EveryOp is such code with an instruction of each Op.
func EveryOp() api.Code {
	return Usual(`Number D0 =3f000000; Whole D4 N300; Copy D1 A0; Add D1 A0 B1; Sub D2 A1 B0; Mul D2 A2 B1; Div D3 A2 B1; Min D3 A3 B2; Max D3 A2 B3; Less D2 A3 B1;
		Sqrt D2 A2; Neg D1 A2; Abs D1 A1; Finite D0 A1; Select D1 A0 B2 C3; Power D2 A1 B4; From D3 A4; Test D5 A3; Grad D8; Sum D2 A8; Least D3 A8; Inc D5 A5;
		Less2 D6 A5 B4; Same D6 A4 B5; And D7 A6 B5; Not D7 A7; Choose D4 A7 B5 C6; Minus D5 A4 B6; Over D6 A5 B4; Param D12 N1; Out A12 N1; Load D9 N2; Store A9 N7;
		When A7; Loop N1; Neg D13 A12; Out A13; Next; End`)
}
