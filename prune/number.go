package prune

import (
	"lathe/api"
	"lathe/ir"
)

// registerFields are the fields of instructions that name registers. A row names A ahead of B, and B ahead of C.
func registerFields(list []api.Inst) []*int {
	var fields []*int
	for n := range list {
		i := &list[n]
		if ir.Sets(*i) {
			fields = append(fields, &i.D)
		}
		read := [...]*int{&i.A, &i.B, &i.C}
		fields = append(fields, read[:len(ir.Reads(*i))]...)
	}
	return fields
}

// slotFields are the fields of instructions that name slots.
func slotFields(list []api.Inst) []*int {
	var fields []*int
	for n := range list {
		if i := &list[n]; i.Op == api.OpLoad || i.Op == api.OpStore {
			fields = append(fields, &i.N)
		}
	}
	return fields
}

// renumbered are those of all that a field names, in their order; the fields then name them by their new numbers. No flag of isNamed is
// set at the beginning.
func renumbered[T any](all []T, fields []*int, isNamed []bool) []T {
	for _, field := range fields {
		isNamed[*field] = true
	}
	var left []T
	numbers := make([]int, len(all))
	for number, one := range all {
		if isNamed[number] {
			numbers[number] = len(left)
			left = append(left, one)
		}
	}
	for _, field := range fields {
		*field = numbers[*field]
	}
	return left
}
