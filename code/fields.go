package code

import (
	"lathe/api"
	"lathe/ir"
)

// fieldsOf are the fields of an instruction that stand in bytecode as numbers: those that its row names, in the order D, A, B, C, N.
func fieldsOf(i *api.Inst) []*int {
	var list []*int
	if ir.Sets(*i) {
		list = append(list, &i.D)
	}
	read := [...]*int{&i.A, &i.B, &i.C} // no row names one of them without those ahead of it
	list = append(list, read[:len(ir.Reads(*i))]...)
	if hasN(i.Op) {
		list = append(list, &i.N)
	}
	return list
}

// hasN tells whether the row of an Op names N.
func hasN(op int) bool {
	switch op {
	case api.OpWhole, api.OpGrad, api.OpParam, api.OpOut, api.OpLoad, api.OpStore, api.OpLoop:
		return true
	}
	return false
}
