package check

import "lathe/api"

// A sort is what may be given for an argument.
type sort int

// The sorts.
const (
	sortNum sort = iota + 1
	sortWhole
	sortFlag
	sortMask
	sortSchedule
	sortTransform
)

// An argument is one that a row names.
type argument struct {
	name  string // empty in a row with '..'
	sort  sort
	value string                  // the text of what it is where it is not given, or needed
	num   func(x api.F) bool      // of a num: whether it is in its range
	whole func(n, ahead int) bool // of a whole and a flag: the same; ahead is the one just ahead of it in the row, or 0
}

// needed is the text of the value of an argument that has none: it must be given.
const needed = ""

func number(name, value string, within func(api.F) bool) argument {
	return argument{name: name, sort: sortNum, value: value, num: within}
}

func whole(name string, low, high int) argument {
	return argument{name: name, sort: sortWhole, whole: between(low, high)}
}

func flag(name, value string) argument {
	return argument{name: name, sort: sortFlag, value: value, whole: between(0, 1)}
}

func other(name string, s sort) argument { return argument{name: name, sort: s} }
