package check

import "lathe/api"

// A row is a call: its arguments, and what a typed program has for it.
type row struct {
	name    string
	op      int
	star    bool              // it does not see complex numbers
	takes   []argument        // in order
	more    []argument        // those that '..' stands for, behind them: in turns, once at least
	last    []argument        // behind those
	becomes func(parts) parts // of what it is short for; nil, if it has its Op for itself
}

// rowOf is a row without '..'.
func rowOf(name string, op int, takes ...argument) row {
	return row{name: name, op: op, takes: takes}
}

// parts are what a row's arguments come to: each list in the row's order.
type parts struct {
	nums   []api.F
	ints   []int
	masks  [][]int
	scheds []api.Sched
	kids   []api.Tx
}

// count is how many arguments they are.
func (p *parts) count() int {
	return len(p.nums) + len(p.ints) + len(p.masks) + len(p.scheds) + len(p.kids)
}

// isOpen tells whether a row has '..'.
func (r *row) isOpen() bool { return len(r.more) > 0 }

// canHave tells whether there can be so many arguments, those counted that are not given.
func (r *row) canHave(count int) bool {
	rest := count - len(r.takes) - len(r.last)
	if !r.isOpen() {
		return rest == 0
	}
	return rest > 0 && rest%len(r.more) == 0
}

// argument is the one at a place, where there are so many.
func (r *row) argument(place, count int) *argument {
	switch behind := place - (count - len(r.last)); {
	case place < len(r.takes):
		return &r.takes[place]
	case behind >= 0:
		return &r.last[behind]
	}
	return &r.more[(place-len(r.takes))%len(r.more)]
}

// tables are all rows.
type tables struct {
	transforms, schedules []row
}

func tablesOf() tables { return tables{transforms(), schedules()} }

// byName is the row of that name, or nil.
func byName(rows []row, name string) *row {
	for i := range rows {
		if rows[i].name == name {
			return &rows[i]
		}
	}
	return nil
}

// byOp is the row that has that Op for itself, or nil.
func byOp(rows []row, op int) *row {
	for i := range rows {
		if rows[i].op == op && rows[i].becomes == nil {
			return &rows[i]
		}
	}
	return nil
}
