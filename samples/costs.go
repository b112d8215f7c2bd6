package samples

import (
	"strings"

	"lathe/api"
)

// Costs are what an instruction of each Op costs, of Op 1 the first: a number, or the register whose width it is.
func Costs() []string {
	return strings.Fields("1 1 D D D D D D D D D D D D D 62 1 1 A A 1 1 1 1 1 1 1 1 D D A D A 1 1 1 1")
}

// Cost is what an instruction costs.
func Cost(c api.Code, i api.Inst) int {
	switch Costs()[i.Op-1] {
	case "1":
		return 1
	case "62":
		return 62
	case "D":
		return Width(c.Regs[i.D], c.Sign)
	}
	return Width(c.Regs[i.A], c.Sign)
}

// Width is that of a register or a slot of a type over a signature.
func Width(is api.Type, sign []api.Param) int {
	if is.Kind == 3 {
		return sign[is.Param].Len
	}
	return 1
}
