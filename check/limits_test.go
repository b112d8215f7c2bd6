package check

import (
	"strings"
	"testing"

	"lathe/api"
)

// deepTx is a transform of that depth.
func deepTx(depth int, inner api.Tx) api.Tx {
	for range depth - 1 {
		inner = api.Tx{Op: 23, Kids: []api.Tx{inner}}
	}
	return inner
}

// deepSched is a schedule of that depth.
func deepSched(depth int, inner api.Sched) api.Sched {
	for range depth - 1 {
		inner = api.Sched{Op: 13, Ints: []int{0}, Kids: []api.Sched{inner}}
	}
	return inner
}

func constant() api.Sched { return api.Sched{Op: 1, Nums: []api.F{0}} }

// TestValidDepth: CH3, transforms and schedules nested as deep as may be, and one deeper.
func TestValidDepth(t *testing.T) {
	for depth := maxDepth - 2; depth < maxDepth+3; depth++ {
		want := api.OK
		if depth > maxDepth {
			want = errDeep
		}
		holdValid(t, deepTx(depth, api.Tx{Op: 1}), wz(), want)
		holdValid(t, api.Tx{Op: 3, Sched: deepSched(depth, constant())}, wz(), want)
		for _, outer := range []int{1, 2, 30, maxDepth - 2} {
			inner := depth - outer + 1 // a schedule has its transform's depth
			holdValid(t, deepTx(outer, api.Tx{Op: 3, Sched: deepSched(inner, constant())}), wz(), want)
			both := api.Tx{Op: 23, Kids: []api.Tx{{Op: 1}, deepTx(outer, api.Tx{Op: 3, Sched: deepSched(inner-1, constant())}), {Op: 1}}}
			holdValid(t, both, wz(), want)
		}
		holdValid(t, api.Tx{Op: 42, Ints: []int{1}, Kids: []api.Tx{{Op: 1}, deepTx(depth-1, api.Tx{Op: 1})}}, wz(), want)
		holdValid(t, api.Tx{Op: 3, Sched: api.Sched{Op: 8, Kids: []api.Sched{constant(), deepSched(depth-1, constant())}}}, wz(), want)
	}
	// ahead of all other faults, and where none may stand
	holdValid(t, deepTx(maxDepth+1, api.Tx{}), wz(), errDeep)
	holdValid(t, deepTx(maxDepth+1, api.Tx{Op: 16}), wz(), errDeep)
	holdValid(t, api.Tx{Op: 23, Kids: []api.Tx{{}, deepTx(maxDepth, api.Tx{})}}, wz(), errDeep)
	holdValid(t, api.Tx{Op: 1, Kids: []api.Tx{deepTx(maxDepth, api.Tx{})}}, wz(), errDeep)
	holdValid(t, api.Tx{Op: 1, Sched: deepSched(maxDepth+1, constant())}, wz(), errDeep)
	holdValid(t, api.Tx{Op: 1, Sched: deepSched(maxDepth, constant())}, wz(), errArg)
	holdValid(t, deepTx(maxDepth, api.Tx{Op: 1, Sched: deepSched(2, constant())}), wz(), errDeep)
	holdValid(t, deepTx(maxDepth, api.Tx{Op: 1, Sched: constant()}), wz(), errArg)
	holdValid(t, deepTx(maxDepth, api.Tx{Op: 3, Sched: constant()}), wz(), api.OK)
	holdValid(t, deepTx(60000, api.Tx{Op: 1}), wz(), errDeep)
	holdValid(t, api.Tx{Sched: deepSched(60000, constant())}, wz(), errDeep)
}

// chainOf is a chain of so many of the same.
func chainOf(count int, x api.Tx) api.Tx {
	out := api.Tx{Op: 23}
	for range count {
		out.Kids = append(out.Kids, x)
	}
	return out
}

// TestValidCount: CH3, as many transforms and schedules as may be, and one more; a Sched that is all zero is none.
func TestValidCount(t *testing.T) {
	scheduled := api.Tx{Op: 3, Sched: constant()}
	for count := maxNodes - 2; count < maxNodes+3; count++ {
		want := api.OK
		if count > maxNodes {
			want = errMany
		}
		holdValid(t, chainOf(count-1, api.Tx{Op: 1}), wz(), want)
		holdValid(t, chainOf(count-1, api.Tx{Op: 1, Sched: api.Sched{Nums: []api.F{}, Ints: []int{}, Kids: []api.Sched{}}}), wz(), want)
		if count%2 == 1 {
			holdValid(t, chainOf((count-1)/2, scheduled), wz(), want)
		}
		joined := api.Sched{Op: 6, Kids: []api.Sched{constant()}}
		for i := range count - 3 {
			joined.Ints, joined.Kids = append(joined.Ints, i+1), append(joined.Kids, constant())
		}
		holdValid(t, api.Tx{Op: 3, Sched: joined}, wz(), want)
		holdValid(t, api.Tx{Op: 26, Ints: []int{1}, Kids: []api.Tx{chainOf(count-2, api.Tx{Op: 1})}}, wz(), want)
	}
	// ahead of all other faults but the depth
	holdValid(t, chainOf(maxNodes, api.Tx{}), wz(), errMany)
	holdValid(t, chainOf(maxNodes, api.Tx{Op: 16}), wz(), errMany)
	holdValid(t, chainOf(maxNodes-1, api.Tx{}), wz(), errArg)
	holdValid(t, chainOf(maxNodes-1, api.Tx{Op: 16}), wz(), errComplex)
	holdValid(t, chainOf(maxNodes, deepTx(maxDepth, api.Tx{})), wz(), errDeep)
	last := chainOf(maxNodes, api.Tx{Op: 1})
	last.Kids[maxNodes-1] = deepTx(maxDepth, api.Tx{})
	holdValid(t, last, wz(), errDeep)
	// schedules count where none may stand, and kids of theirs; but none that is all zero
	holdValid(t, chainOf(maxNodes/2, api.Tx{Op: 1, Sched: api.Sched{Op: 99}}), wz(), errMany)
	holdValid(t, chainOf(maxNodes/2, api.Tx{Op: 1, Sched: api.Sched{Nums: []api.F{0}}}), wz(), errMany)
	holdValid(t, chainOf(maxNodes/2, api.Tx{Op: 1, Sched: api.Sched{Ints: []int{0}}}), wz(), errMany)
	holdValid(t, chainOf(maxNodes/2, api.Tx{Op: 1, Sched: api.Sched{Kids: make([]api.Sched, 3)}}), wz(), errMany)
	holdValid(t, chainOf(maxNodes/2-1, api.Tx{Op: 1, Sched: api.Sched{Kids: make([]api.Sched, 3)}}), wz(), errArg)
	holdValid(t, api.Tx{Op: 1, Sched: api.Sched{Op: 8, Kids: make([]api.Sched, maxNodes)}}, wz(), errArg)
	holdValid(t, api.Tx{Op: 1, Sched: api.Sched{Op: 8, Kids: append(make([]api.Sched, maxNodes), many(maxNodes-1)...)}}, wz(), errMany)
	holdValid(t, api.Tx{Op: 1, Sched: api.Sched{Op: 8, Kids: append(make([]api.Sched, maxNodes), many(maxNodes-2)...)}}, wz(), errArg)
}

// many are so many constant schedules.
func many(count int) []api.Sched {
	list := make([]api.Sched, count)
	for i := range list {
		list[i] = constant()
	}
	return list
}

// TestValidLongLists: CH3, numbers, whole numbers and masks have no limit but their row's.
func TestValidLongLists(t *testing.T) {
	pieces := api.Sched{Op: 5, Nums: []api.F{0}}
	for i := range 1000000 {
		pieces.Nums, pieces.Ints = append(pieces.Nums, 0), append(pieces.Ints, i+1)
	}
	if e := Valid(api.Tx{Op: 3, Sched: pieces}, wz()); e != api.OK {
		t.Error("a million pieces:", e)
	}
	pieces.Ints[999999] = 999999
	if e := Valid(api.Tx{Op: 3, Sched: pieces}, wz()); e != errArg {
		t.Error("a million pieces, the last one at fault:", e)
	}
	if e := Valid(api.Tx{Op: 2, Nums: pieces.Nums}, wz()); e != errArg {
		t.Error("a million factors:", e)
	}
}

// TestCheckLimits: CH2, trees at their limits have typed programs, and these are Valid.
func TestCheckLimits(t *testing.T) {
	holdTyped(t, nested(maxDepth), wz(), dump(deepTx(maxDepth, api.Tx{Op: 1})))
	holdTyped(t, call("chain", manyOf(maxNodes-1, call("identity"))...), wz(), dump(chainOf(maxNodes-1, api.Tx{Op: 1})))
	holdFault(t, placed(3, nested(maxDepth+1)), wz(), errDeep, 3)
	holdFault(t, placed(3, call("chain", manyOf(maxNodes, call("identity"))...)), wz(), errMany, 3)
	warm := wholeOf(1)
	for range maxDepth - 2 {
		warm = call("warmup", wholeOf(1), wholeOf(1), warm)
	}
	holdTold(t, call("scale_by_schedule", warm), wz(), api.OK)
	holdFault(t, placed(3, call("scale_by_schedule", call("hold", warm, wholeOf(1)))), wz(), errDeep, 3)
	piece := call("piecewise", wholeOf(1))
	for i := range (maxNodes - 3) / 2 {
		piece.Args = append(piece.Args, wholeOf(i+1), wholeOf(i))
	}
	holdTold(t, call("scale_by_schedule", piece), wz(), api.OK)
	parted := call("partition")
	for range (maxNodes - 3) / 2 {
		parted.Args = append(parted.Args, text("*"), call("identity"))
	}
	parted.Args = append(parted.Args, call("clip", wholeOf(1)))
	holdTold(t, parted, wz(), api.OK)
	parted.Args[1] = call("scale_by_sign")
	holdTold(t, parted, wz(), errComplex)
	// aliases make trees deeper and greater; lets too
	holdFault(t, read("let a = sgd(1); "+strings.Repeat("chain(", 62)+"a"+strings.Repeat(")", 62)), wz(), errDeep, 0)
	holdTold(t, read("let a = sgd(1); "+strings.Repeat("chain(", 61)+"a"+strings.Repeat(")", 61)), wz(), api.OK)
	doubled := "let a0 = identity(); "
	for i := range 12 {
		doubled += "let a" + string(rune('b'+i)) + " = chain(a" + string(rune('a'+i)) + ", a" + string(rune('a'+i)) + "); "
	}
	doubled = strings.Replace(doubled, "let a0", "let aa", 1)
	holdFault(t, placed(5, read(doubled+"chain(am)")), wz(), errMany, 5)
	holdTold(t, read(doubled+"chain(ak)"), wz(), api.OK)
}
