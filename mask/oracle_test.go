package mask

import (
	"regexp"
	"slices"
	"strconv"

	"lathe/api"
)

// meant is Match by the chapter's words, byte by byte of the glob: which beginnings of the name it means so far.
func meant(glob, name string) bool {
	so := make([]bool, len(name)+1)
	so[0] = true
	for _, g := range []byte(glob) {
		next := make([]bool, len(name)+1)
		for i := range next {
			switch {
			case g == '*':
				next[i] = so[i] || i > 0 && next[i-1]
			case i > 0:
				next[i] = so[i-1] && (g == '?' || g == name[i-1])
			}
		}
		so = next
	}
	return so[len(name)]
}

// aCall are the calls that are masks, with the number of their arguments.
var aCall = regexp.MustCompile(`\A((all|none|real|complex) 0|not 1|(and|or) [1-9][0-9]*)\z`)

// depthOf is a tree's depth by chapter 7.
func depthOf(n api.Node) int {
	depth := 0
	for _, a := range n.Args {
		depth = max(depth, depthOf(a))
	}
	return 1 + depth
}

// looked are the nodes that are looked at, in their order: the arguments of a text are not.
func looked(n api.Node) []api.Node {
	all := []api.Node{n}
	if n.Kind != nodeText {
		for _, a := range n.Args {
			all = append(all, looked(a)...)
		}
	}
	return all
}

// named are the places of the names that a glob means.
func named(glob string, list []api.Param) []int {
	return chosen(list, func(i int) bool { return meant(glob, list[i].Name) })
}

// chosen are the places of the list of which want says so.
func chosen(list []api.Param, want func(int) bool) []int {
	var all []int
	for i := range list {
		if want(i) {
			all = append(all, i)
		}
	}
	return all
}

// told is Set by the chapter's words.
func told(n api.Node, list []api.Param) ([]int, api.Errno, int) {
	if depthOf(n) > maxDepth {
		return nil, api.ErrDeep, n.At
	}
	for i, m := range looked(n) {
		isCall := m.Kind == nodeCall && aCall.MatchString(m.Name+" "+strconv.Itoa(len(m.Args)))
		switch {
		case !isCall && m.Kind != nodeText, i > 0 && m.Key != "":
			return nil, api.ErrMask, m.At
		case m.Kind == nodeText && len(named(m.Name, list)) == 0:
			return nil, api.ErrNone, m.At
		}
	}
	return sets(n, list), api.OK, 0
}

// sets are the places that a mask means: each argument's are told as a whole, and put together.
func sets(n api.Node, list []api.Param) []int {
	if n.Kind == nodeText {
		return named(n.Name, list)
	}
	counts := make([]int, len(list))
	for _, a := range n.Args {
		for _, i := range sets(a, list) {
			counts[i]++
		}
	}
	return chosen(list, func(i int) bool {
		return map[string]bool{
			"all":     true,
			"real":    list[i].Kind == kindReal,
			"complex": list[i].Kind == kindComplex,
			"not":     counts[i] == 0,
			"and":     counts[i] == len(n.Args),
			"or":      counts[i] > 0,
		}[n.Name]
	})
}

// together are two lists of places as one, rising.
func together(a, b []int) []int {
	all := slices.Concat(a, b)
	slices.Sort(all)
	return all
}
