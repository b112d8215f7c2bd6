package check

import (
	"math"
	"testing"

	"lathe/api"
	"lathe/float"
	"lathe/samples"
)

// with is a row's full call with another node for one of its arguments.
func with(s spec, place int, n api.Node) api.Node {
	full := fullCall(s)
	full.Args[place] = n
	return full
}

// eachSlot hands on each argument of all rows without '..'.
func eachSlot(yield func(s spec, isSchedule bool, place int, o slot)) {
	eachRow(func(s spec, isSchedule bool) {
		if len(s.more) > 0 {
			return
		}
		for i, o := range s.once {
			yield(s, isSchedule, i, o)
		}
	})
}

// TestRangesOfNumbers: CH2, each range at its ends, just within and just without, as numbers and as whole numbers.
func TestRangesOfNumbers(t *testing.T) {
	told := map[string][2]int{}
	eachSlot(func(s spec, isSchedule bool, place int, o slot) {
		if o.sort != "num" {
			return
		}
		hold := func(n api.Node, x float64) {
			in := map[string]bool{"any": true, "from0": x >= 0, "above0": x > 0, "0to1": x >= 0 && x <= 1, "0below1": x >= 0 && x < 1}[o.bounds]
			e, count := errValue, told[o.bounds]
			if in {
				e = api.OK
				count[0]++
			} else {
				count[1]++
			}
			told[o.bounds] = count
			holdTold(t, wrapped(with(s, place, n), isSchedule), reals(), e)
		}
		for _, x := range samples.Edges() {
			if v := math.Float32frombits(uint32(x)); v-v == 0 {
				hold(num(x), float64(v))
			}
		}
		for _, x := range []api.F{0, 0x80000000, 1, 0x80000001, 0x3f7fffff, 0x3f800000, 0x3f800001, 0xbf800000, 0x7f7fffff, 0xff7fffff, 0x3f000000} {
			hold(num(x), float64(math.Float32frombits(uint32(x))))
		}
		for _, n := range []int{0, 1, -1, 2, maxCount, -maxCount, 16777217} {
			hold(wholeOf(n), float64(float32(n)))
		}
	})
	for bounds, count := range told {
		if count[0] < 15 || count[1] < 15 && bounds != "any" {
			t.Errorf("%s: %v", bounds, count)
		}
	}
	if len(told) != 5 {
		t.Error(told)
	}
}

// TestRangesOfWholes: CH2, the same of whole numbers; beyond MaxCount tree.Check refuses them.
func TestRangesOfWholes(t *testing.T) {
	within := 0
	eachSlot(func(s spec, isSchedule bool, place int, o slot) {
		if o.sort != "whole" {
			return
		}
		low, high := 1, maxCount
		switch {
		case o.name == "begin", o.name == "max_errors", s.name == "hold":
			low = 0
		case o.name == "power":
			high = maxPower
		}
		for _, n := range []int{-maxCount, -1, 0, 1, 2, maxPower - 1, maxPower, maxPower + 1, maxCount - 1, maxCount} {
			e := errValue
			if n >= low && n <= high {
				e = api.OK
				within++
			}
			holdTold(t, wrapped(with(s, place, wholeOf(n)), isSchedule), reals(), e)
		}
		for _, n := range []int{maxCount + 1, -maxCount - 1, math.MaxInt, math.MinInt} {
			n := numbered(10, wrapped(with(s, place, wholeOf(n)), isSchedule))
			holdFault(t, n, reals(), errTree, 10)
		}
	})
	if within < 80 {
		t.Error(within)
	}
}

// kinds are nodes of every kind, and calls of each table, of a mask and of no table.
func kinds() map[string]api.Node {
	return map[string]api.Node{
		"number": num(0x3f000000), "whole": wholeOf(1), "true": named("true"), "false": named("false"), "name": named("foo"), "named": named("identity"),
		"text": text("w"), "transform": call("identity"), "schedule": call("constant", wholeOf(1)), "mask": call("all"), "foo": call("foo"),
	}
}

// TestSorts: CH2, for each argument of each row a node of every kind, by place and by name.
func TestSorts(t *testing.T) {
	takes := map[string]map[string]api.Errno{
		"num":       {"number": api.OK, "whole": api.OK},
		"whole":     {"whole": api.OK},
		"flag":      {"true": api.OK, "false": api.OK},
		"mask":      {"text": api.OK, "mask": api.OK, "transform": errMask, "schedule": errMask, "foo": errMask},
		"schedule":  {"number": api.OK, "whole": api.OK, "schedule": api.OK, "mask": errName, "transform": errName, "foo": errName},
		"transform": {"transform": api.OK, "mask": errName, "schedule": errName, "foo": errName},
	}
	eachSlot(func(s spec, isSchedule bool, place int, o slot) {
		for kind, n := range kinds() {
			e, ok := takes[o.sort][kind]
			if !ok {
				e = errType
			}
			if kind == "whole" && o.bounds == "0below1" {
				e = errValue
			}
			holdTold(t, wrapped(with(s, place, n), isSchedule), reals(), e)
			holdTold(t, wrapped(with(s, place, keyed(o.name, n)), isSchedule), reals(), keyedError(place, len(s.once), e))
		}
	})
}

// keyedError is the error where the argument at a place has a Key: if others without one stand behind it, it is theirs.
func keyedError(place, count int, e api.Errno) api.Errno {
	if place+1 < count {
		return errKey
	}
	return e
}

// TestSortsInTurns: CH2, the same of the rows with '..', at each place.
func TestSortsInTurns(t *testing.T) {
	for _, program := range []string{
		"chain(identity(), scale(2), scale(3))",
		`partition("w", identity(), "b", scale(2), scale(3))`,
		"scale_by_schedule(piecewise(1.0, 1, 2.0, 2, 3.0))",
		"scale_by_schedule(join(1.0, 1, 2.0, 2, 3.0))",
	} {
		n := read(program)
		isSchedule := n.Name == "scale_by_schedule"
		if isSchedule {
			n = n.Args[0]
		}
		for place := range n.Args {
			for _, other := range kinds() {
				args := append([]api.Node{}, n.Args...)
				args[place] = other
				_, e, _ := told(wrapped(call(n.Name, args...), isSchedule), reals())
				holdTold(t, wrapped(call(n.Name, args...), isSchedule), reals(), e)
			}
		}
	}
	for _, c := range []struct {
		program string
		e       api.Errno
		at      int
	}{
		{"chain(identity(), 1)", errType, 18},
		{`chain("w")`, errType, 6},
		{"chain(constant(1))", errName, 6},
		{"partition(identity(), identity(), identity())", errMask, 10},
		{`partition(1, identity(), identity())`, errType, 10},
		{`partition("w", "b", identity())`, errType, 15},
		{`partition("w", identity(), "b")`, errType, 27},
		{`partition("w", identity(), all(), identity(), "b")`, errType, 46},
		{`partition("w", identity(), all())`, errName, 27},
		{`scale_by_schedule(piecewise("w", 1, 2))`, errType, 28},
		{"scale_by_schedule(piecewise(constant(1), 1, 2))", errType, 28},
		{"scale_by_schedule(piecewise(1.0, 1.0, 2))", errType, 33},
		{"scale_by_schedule(piecewise(1.0, 1, true))", errType, 36},
		{"scale_by_schedule(join(1.0, 1.0, 2))", errType, 28},
		{"scale_by_schedule(join(1.0, 1, all()))", errName, 31},
		{"scale_by_schedule(join(identity(), 1, 2))", errName, 23},
	} {
		holdFault(t, read(c.program), reals(), c.e, c.at)
	}
}

// TestWholeNumbersAsNumbers: CH2, a NodeWhole means float.FromInt of its Int, also -0.
func TestWholeNumbersAsNumbers(t *testing.T) {
	s := samples.Source(131)
	all := []int{0, 1, -1, 16777215, 16777216, 16777217, 16777218, 16777219, -16777217, 33554433, 33554434, 33554435, maxCount, -maxCount, maxCount - 64, maxCount - 63, maxCount - 65}
	for range 3000 {
		all = append(all, s.UpTo(maxCount), -s.UpTo(maxCount), s.UpTo(1<<26))
	}
	for _, n := range all {
		got, e, _ := Check(call("scale", wholeOf(n)), nil)
		if e != api.OK || len(got.Nums) != 1 || got.Nums[0] != float.FromInt(n) {
			t.Errorf("scale(%d) = %s, %d", n, dump(got), e)
		}
		got, e, _ = Check(call("scale_by_schedule", wholeOf(n)), nil)
		if e != api.OK || len(got.Sched.Nums) != 1 || got.Sched.Nums[0] != float.FromInt(n) {
			t.Errorf("scale_by_schedule(%d) = %s, %d", n, dump(got), e)
		}
	}
	holdTyped(t, read("scale(-0)"), wz(), "2[00000000]")
	holdTyped(t, read("scale(-0.0)"), wz(), "2[80000000]")
	holdTyped(t, read("scale_by_schedule(-0)"), wz(), "3@1[00000000]")
	holdTyped(t, read("scale_by_schedule(-0.0)"), wz(), "3@1[80000000]")
	holdTyped(t, read("trace(-0.0)"), wz(), "7[80000000]{0}")
	holdFault(t, read("clip_by_global_norm(-0.0)"), wz(), errValue, 20)
	holdFault(t, read("clip_by_global_norm(0)"), wz(), errValue, 20)
}
