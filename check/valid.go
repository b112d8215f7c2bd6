package check

import "lathe/api"

// isDeeper tells whether a transform is nested deeper than most. It goes no further down than that, however deep it is.
func isDeeper(t *api.Tx, most int) bool {
	if most == 0 || isDeeperSched(&t.Sched, most) {
		return true
	}
	for i := range t.Kids {
		if isDeeper(&t.Kids[i], most-1) {
			return true
		}
	}
	return false
}

func isDeeperSched(s *api.Sched, most int) bool {
	if most == 0 {
		return true
	}
	for i := range s.Kids {
		if isDeeperSched(&s.Kids[i], most-1) {
			return true
		}
	}
	return false
}

// countOf is how many transforms and schedules there are.
func countOf(t *api.Tx) int {
	count := 1 + countOfSched(&t.Sched)
	for i := range t.Kids {
		count += countOf(&t.Kids[i])
	}
	return count
}

func countOfSched(s *api.Sched) int {
	if isNone(s) {
		return 0
	}
	count := 1
	for i := range s.Kids {
		count += countOfSched(&s.Kids[i])
	}
	return count
}

// isNone tells whether a schedule is the zero one, which is none.
func isNone(s *api.Sched) bool {
	return s.Op == 0 && len(s.Nums) == 0 && len(s.Ints) == 0 && len(s.Kids) == 0
}

// A judge tells which typed programs may be.
type judge struct {
	tables
	list []api.Param
}

// transform is the first error of a transform and of what is in it.
func (j *judge) transform(t *api.Tx, v view) api.Errno {
	w := byOp(j.transforms, t.Op)
	p := &parts{nums: t.Nums, ints: t.Ints, masks: t.Masks, kids: t.Kids}
	if !isNone(&t.Sched) {
		p.scheds = []api.Sched{t.Sched}
	}
	if w == nil || !j.fits(w, p) {
		return api.ErrArg
	}
	if w.star && v.seesComplex() {
		return api.ErrComplex
	}
	for i := range p.scheds {
		if !j.schedule(&p.scheds[i]) {
			return api.ErrArg
		}
	}
	rest := v.within(t.Op)
	for i := range t.Kids {
		if e := j.transform(&t.Kids[i], rest.next(t.Masks, i)); e != api.OK {
			return e
		}
	}
	return api.OK
}

// schedule tells whether a schedule may be, and those in it.
func (j *judge) schedule(s *api.Sched) bool {
	w := byOp(j.schedules, s.Op)
	if w == nil || !j.fits(w, &parts{nums: s.Nums, ints: s.Ints, scheds: s.Kids}) {
		return false
	}
	for i := range s.Kids {
		if !j.schedule(&s.Kids[i]) {
			return false
		}
	}
	return true
}

// seen is how many of each list of parts have been looked at.
type seen struct {
	nums, ints, masks, scheds, kids int
}

// fits tells whether parts are just those of a row, their numbers and masks as they may be. What stands in schedules and
// kids is not asked.
func (j *judge) fits(w *row, p *parts) bool {
	count := p.count()
	if !w.canHave(count) {
		return false
	}
	var so seen
	for i := range count {
		if !j.fitsNext(w.argument(i, count), p, &so) {
			return false
		}
	}
	return true // there are as many arguments as parts, so that none is left
}

// fitsNext tells whether the next part of an argument's sort is there, and is as it may be.
func (j *judge) fitsNext(a *argument, p *parts, so *seen) bool {
	switch a.sort {
	case sortNum:
		so.nums++
		return so.nums <= len(p.nums) && a.num(p.nums[so.nums-1])
	case sortWhole, sortFlag:
		so.ints++
		return so.ints <= len(p.ints) && a.whole(p.ints[so.ints-1], lastOf(p.ints[:so.ints-1]))
	case sortMask:
		so.masks++
		return so.masks <= len(p.masks) && j.isMask(p.masks[so.masks-1])
	case sortSchedule:
		so.scheds++
		return so.scheds <= len(p.scheds)
	}
	so.kids++
	return so.kids <= len(p.kids)
}

// isMask tells whether places are of parameters, rising.
func (j *judge) isMask(places []int) bool {
	least := 0
	for _, i := range places {
		if i < least || i >= len(j.list) {
			return false
		}
		least = i + 1
	}
	return true
}
