package fuse

import (
	"lathe/api"
	"lathe/samples"
)

// mayBeLooped is how many instructions of a code may be.
func mayBeLooped(c api.Code) int {
	count := 0
	for _, i := range c.List {
		if samples.LoopOf(c, i) >= 0 {
			count++
		}
	}
	return count
}

// isBounded tells whether FU3 speaks of a code.
func isBounded(c api.Code) bool {
	depth, deepest := 0, 0
	for _, i := range c.List {
		depth += samples.Deeper(i)
		deepest = max(deepest, depth)
	}
	return len(samples.Bare(c)) <= 10922 && deepest < maxNest
}

// tally is how often each instruction stands in a list.
func tally(list []api.Inst) map[api.Inst]int {
	count := map[api.Inst]int{}
	for _, i := range list {
		count[i]++
	}
	return count
}
