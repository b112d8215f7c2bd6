package check

import (
	"slices"
	"testing"

	"lathe/api"
)

// typedOf is the typed program of a text.
func typedOf(program string, list []api.Param) api.Tx {
	t, e, at := Check(read(program), list)
	if e != api.OK {
		panic(program + ": " + show(placed(at, wholeOf(int(e)))))
	}
	return t
}

// holdValid: Valid answers that, and the chapter's words say so too.
func holdValid(t *testing.T, x api.Tx, list []api.Param, want api.Errno) {
	t.Helper()
	if got := Valid(x, list); got != want {
		t.Errorf("Valid(%s) = %d, want %d", brief(dump(x)), got, want)
	}
	if got := toldValid(x, list); got != want {
		t.Errorf("of %s the words say %d, want %d", brief(dump(x)), got, want)
	}
}

// copied is a typed program in memory of its own.
func copied(t api.Tx) api.Tx {
	t.Nums, t.Ints, t.Sched = slices.Clone(t.Nums), slices.Clone(t.Ints), copiedSched(t.Sched)
	t.Masks = slices.Clone(t.Masks)
	for i := range t.Masks {
		t.Masks[i] = slices.Clone(t.Masks[i])
	}
	t.Kids = slices.Clone(t.Kids)
	for i := range t.Kids {
		t.Kids[i] = copied(t.Kids[i])
	}
	return t
}

func copiedSched(s api.Sched) api.Sched {
	s.Nums, s.Ints, s.Kids = slices.Clone(s.Nums), slices.Clone(s.Ints), slices.Clone(s.Kids)
	for i := range s.Kids {
		s.Kids[i] = copiedSched(s.Kids[i])
	}
	return s
}

// cases are typed programs of all rows.
func cases() []api.Tx {
	var all []api.Tx
	for _, c := range rowCases() {
		all = append(all, typedOf(c[0], reals()))
	}
	for _, c := range schedCases() {
		all = append(all, typedOf("scale_by_schedule("+c[0]+")", reals()))
	}
	return all
}

// TestValidRows: CH3, what Check answers, by itself and within others.
func TestValidRows(t *testing.T) {
	for _, x := range cases() {
		holdValid(t, x, reals(), api.OK)
		holdValid(t, api.Tx{Op: 23, Kids: []api.Tx{{Op: 1}, x, x}}, reals(), api.OK)
		holdValid(t, api.Tx{Op: 42, Ints: []int{1}, Kids: []api.Tx{x, x}}, reals(), api.OK)
	}
}

// spoilt hands on a typed program with each of its lists too long and too short by one, with lists and a schedule where there are none,
// with the schedule gone, and with an Op that is none. (A chain may have a kid more or less.)
func spoilt(x api.Tx, yield func(what string, x api.Tx)) {
	change := func(what string, f func(x *api.Tx)) {
		y := copied(x)
		f(&y)
		yield(what, y)
	}
	change("a number more", func(x *api.Tx) { x.Nums = append(x.Nums, 0x3f000000) })
	change("a number more ahead", func(x *api.Tx) { x.Nums = slices.Insert(x.Nums, 0, 0x3f000000) })
	change("a whole number more", func(x *api.Tx) { x.Ints = append(x.Ints, 1) })
	change("a mask more", func(x *api.Tx) { x.Masks = append(x.Masks, []int{0}) })
	change("an empty mask more", func(x *api.Tx) { x.Masks = append(x.Masks, nil) })
	if x.Op != 23 {
		change("a kid more", func(x *api.Tx) { x.Kids = append(x.Kids, api.Tx{Op: 1}) })
	}
	if len(x.Nums) > 0 {
		change("a number less", func(x *api.Tx) { x.Nums = x.Nums[1:] })
		change("a number for a whole one", func(x *api.Tx) { x.Nums, x.Ints = x.Nums[1:], append(x.Ints, 1) })
	}
	if len(x.Ints) > 0 {
		change("a whole number less", func(x *api.Tx) { x.Ints = x.Ints[1:] })
		change("a whole number for another one", func(x *api.Tx) { x.Nums, x.Ints = append(x.Nums, 0x3f000000), x.Ints[1:] })
	}
	if len(x.Masks) > 0 {
		change("a mask less", func(x *api.Tx) { x.Masks = x.Masks[1:] })
	}
	if len(x.Kids) > 0 && !(x.Op == 23 && len(x.Kids) > 1) {
		change("a kid less", func(x *api.Tx) { x.Kids = x.Kids[1:] })
	}
	if x.Op == 3 {
		change("no schedule", func(x *api.Tx) { x.Sched = api.Sched{} })
	} else {
		change("a schedule", func(x *api.Tx) { x.Sched = api.Sched{Op: 1, Nums: []api.F{0}} })
		change("a schedule without an Op", func(x *api.Tx) { x.Sched = api.Sched{Nums: []api.F{0}} })
		change("a schedule of a whole number", func(x *api.Tx) { x.Sched = api.Sched{Ints: []int{0}} })
		change("a schedule of a kid", func(x *api.Tx) { x.Sched = api.Sched{Kids: []api.Sched{{}}} })
		change("a schedule of an Op", func(x *api.Tx) { x.Sched = api.Sched{Op: 99} })
	}
	for _, op := range []int{0, -1, 43, 99, 1 << 40, -(1 << 40)} {
		change("no Op", func(x *api.Tx) { x.Op = op })
	}
}

// TestSpoiltLists: CH3, each list of each row with one too many and too few, and what a row has not.
func TestSpoiltLists(t *testing.T) {
	count := 0
	for _, x := range cases() {
		spoilt(x, func(what string, y api.Tx) {
			count++
			if got := Valid(y, reals()); got != errArg {
				t.Errorf("%s with %s: %d", dump(x), what, got)
			}
			holdValid(t, y, reals(), errArg)
			holdValid(t, api.Tx{Op: 23, Kids: []api.Tx{x, y}}, reals(), errArg)
			holdValid(t, api.Tx{Op: 26, Ints: []int{1}, Kids: []api.Tx{y}}, reals(), errArg)
		})
	}
	if count < 1000 {
		t.Error("only", count)
	}
	holdValid(t, api.Tx{Op: 23, Kids: []api.Tx{}}, reals(), errArg)
	holdValid(t, api.Tx{}, reals(), errArg)
	holdValid(t, api.Tx{Op: 25, Masks: [][]int{}, Kids: []api.Tx{{Op: 1}}}, reals(), errArg)
	holdValid(t, api.Tx{Op: 25, Masks: [][]int{{0}, {1}}, Kids: []api.Tx{{Op: 1}}}, reals(), errArg)
	holdValid(t, api.Tx{Op: 25, Masks: [][]int{{0}, {1}}, Kids: []api.Tx{{Op: 1}, {Op: 1}}}, reals(), errArg)
	holdValid(t, api.Tx{Op: 25, Masks: [][]int{{0}, {1}, {1}}, Kids: []api.Tx{{Op: 1}, {Op: 1}}}, reals(), errArg)
	holdValid(t, api.Tx{Op: 24, Masks: [][]int{{0}, {1}}}, reals(), errArg)
	holdValid(t, api.Tx{Op: 24, Kids: []api.Tx{{Op: 1}, {Op: 1}}}, reals(), errArg)
}

// spoiltSched hands on a schedule with each of its lists spoilt.
func spoiltSched(s api.Sched, yield func(s api.Sched)) {
	change := func(f func(s *api.Sched)) {
		y := copiedSched(s)
		f(&y)
		yield(y)
	}
	change(func(s *api.Sched) { s.Nums = append(s.Nums, 0x3f000000) })
	change(func(s *api.Sched) { s.Ints = append(s.Ints, maxCount) })
	change(func(s *api.Sched) { s.Kids = append(s.Kids, api.Sched{Op: 1, Nums: []api.F{0}}) })
	change(func(s *api.Sched) { s.Kids = append(s.Kids, api.Sched{}) })
	if len(s.Nums) > 0 {
		change(func(s *api.Sched) { s.Nums = s.Nums[1:] })
		change(func(s *api.Sched) { s.Nums, s.Ints = s.Nums[1:], append(s.Ints, maxCount) })
	}
	if len(s.Ints) > 0 {
		change(func(s *api.Sched) { s.Ints = s.Ints[1:] })
		change(func(s *api.Sched) { s.Nums, s.Ints = append(s.Nums, 0x3f000000), s.Ints[1:] })
	}
	if len(s.Kids) > 0 {
		change(func(s *api.Sched) { s.Kids = s.Kids[1:] })
		for i := range s.Kids {
			change(func(s *api.Sched) { s.Kids[i] = api.Sched{} })
			change(func(s *api.Sched) { s.Kids[i] = api.Sched{Op: 1} })
		}
	}
	for _, op := range []int{0, -1, 14, 99, 1 << 40} {
		change(func(s *api.Sched) { s.Op = op })
	}
}

// TestSpoiltSchedules: CH3, the same of each schedule's row, by itself and within others.
func TestSpoiltSchedules(t *testing.T) {
	for _, x := range cases() {
		if x.Op != 3 {
			continue
		}
		spoiltSched(x.Sched, func(s api.Sched) {
			holdValid(t, api.Tx{Op: 3, Sched: s}, reals(), errArg)
			one := api.Sched{Op: 1, Nums: []api.F{0}}
			holdValid(t, api.Tx{Op: 3, Sched: api.Sched{Op: 8, Kids: []api.Sched{one, s}}}, reals(), errArg)
			holdValid(t, api.Tx{Op: 3, Sched: api.Sched{Op: 8, Kids: []api.Sched{s, one}}}, reals(), errArg)
			holdValid(t, api.Tx{Op: 3, Sched: api.Sched{Op: 13, Ints: []int{0}, Kids: []api.Sched{x.Sched}}}, reals(), api.OK)
			holdValid(t, api.Tx{Op: 23, Kids: []api.Tx{{Op: 3, Sched: x.Sched}, {Op: 3, Sched: s}}}, reals(), errArg)
			holdValid(t, api.Tx{Op: 1, Sched: x.Sched}, reals(), errArg)
		})
	}
	join := func(ints, kids int) api.Tx {
		s := api.Sched{Op: 6}
		for i := range ints {
			s.Ints = append(s.Ints, i+1)
		}
		for range kids {
			s.Kids = append(s.Kids, api.Sched{Op: 1, Nums: []api.F{0}})
		}
		return api.Tx{Op: 3, Sched: s}
	}
	for ints := range 6 {
		for kids := range 7 {
			want := errArg
			if ints >= 1 && kids == ints+1 {
				want = api.OK
			}
			holdValid(t, join(ints, kids), reals(), want)
		}
	}
}

// TestSpoiltMasks: CH3, a mask is a list of parameters, rising, none twice.
func TestSpoiltMasks(t *testing.T) {
	list := realsOf(mixed())
	for _, c := range []struct {
		mask []int
		e    api.Errno
	}{
		{nil, api.OK}, {[]int{}, api.OK}, {[]int{0}, api.OK}, {[]int{3}, api.OK}, {[]int{0, 1, 2, 3}, api.OK}, {[]int{1, 3}, api.OK},
		{[]int{4}, errArg}, {[]int{-1}, errArg}, {[]int{0, 0}, errArg}, {[]int{1, 0}, errArg}, {[]int{0, 1, 1}, errArg}, {[]int{0, 2, 1, 3}, errArg}, {[]int{0, 1, 4}, errArg},
		{[]int{-1, 0}, errArg}, {[]int{0, 1, 2, 3, 4}, errArg}, {[]int{64}, errArg}, {[]int{1 << 62}, errArg}, {[]int{-1 << 63}, errArg}, {[]int{1<<63 - 1, 0}, errArg},
	} {
		one := api.Tx{Op: 1}
		holdValid(t, api.Tx{Op: 24, Masks: [][]int{c.mask}, Kids: []api.Tx{one}}, list, c.e)
		holdValid(t, api.Tx{Op: 25, Masks: [][]int{c.mask}, Kids: []api.Tx{one, one}}, list, c.e)
		holdValid(t, api.Tx{Op: 25, Masks: [][]int{{0, 1}, {1, 2}, c.mask}, Kids: []api.Tx{one, one, one, one}}, list, c.e)
		holdValid(t, api.Tx{Op: 23, Kids: []api.Tx{one, {Op: 25, Masks: [][]int{c.mask, {0}}, Kids: []api.Tx{one, one, one}}}}, list, c.e)
		if len(c.mask) > 0 {
			holdValid(t, api.Tx{Op: 24, Masks: [][]int{c.mask}, Kids: []api.Tx{one}}, nil, errArg)
		}
	}
}
