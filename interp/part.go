package interp

import (
	"lathe/api"
	"lathe/bits"
)

// part is the part N of D's parameter, of the gradients or of the parameters.
func (f *frame) part(vectors [][]api.F, i *api.Inst) []api.F {
	place := f.code.Regs[i.D].Param
	whole, apart := vectors[place], f.apart(place)
	list := make([]api.F, f.code.Sign[place].Len)
	for element := range list {
		list[element] = bits.Canon(whole[apart*element+i.N])
	}
	return list
}

// out makes A the part N of the update of A's parameter.
func (f *frame) out(i *api.Inst) {
	place := f.code.Regs[i.A].Param
	apart := f.apart(place)
	for element, a := range f.vectors[i.A] {
		f.updates[place][apart*element+i.N] = a
	}
}

// apart is how far apart the patterns of one part stand in a parameter's vector.
func (f *frame) apart(place int) int {
	if f.code.Sign[place].Kind == api.KindComplex {
		return 2
	}
	return 1
}
