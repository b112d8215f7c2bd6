package print

import (
	"testing"

	"lathe/api"
	"lathe/tree"
)

// smallValues are nodes of all kinds but lets that are much alike.
func smallValues() []api.Node {
	return []api.Node{
		number(0x3f800000), number(0), number(0x80000000), whole(1), whole(0), whole(-1), word("a"), word("let"),
		quoted("a"), quoted(""), quoted("1"), quoted("a, a"), call("a"), call("let"),
	}
}

// withKeys are the nodes without a Key, and with one that another node's Name may be.
func withKeys(list []api.Node) []api.Node {
	var all []api.Node
	for _, n := range list {
		all = append(all, n, keyed("a", n), keyed("let", n))
	}
	return all
}

// calls are all calls with one of the nodes, or with one of the first so many and then one of the others.
func calls(list []api.Node, first int) []api.Node {
	var all []api.Node
	for _, name := range []string{"a", "let"} {
		for i, n := range list {
			all = append(all, call(name, n))
			for _, other := range list {
				if i < first {
					all = append(all, call(name, n, other))
				}
			}
		}
	}
	return all
}

// smallTrees are thousands, no two of them Equal.
func smallTrees() []api.Node {
	leaves := smallValues()
	shallow := calls(withKeys(leaves), len(leaves)*3)
	all := append(leaves, shallow...)
	all = append(all, calls(withKeys(shallow[:200]), 3)...)
	for _, value := range all[:300] {
		for _, rest := range []api.Node{call("a"), call("let", word("a")), call("a", word("a"), quoted("a"))} {
			all = append(all, let("a", value, rest), let("let", value, let("let", word("let"), rest)))
		}
	}
	return all
}

// TestDifferentTexts: PT3, trees that are not Equal have different texts, on one line and on lines of any width.
func TestDifferentTexts(t *testing.T) {
	trees := smallTrees()
	if len(trees) < 5000 {
		t.Fatal("only", len(trees), "trees")
	}
	seen := map[string]int{}
	for i, n := range trees {
		s, e := Print(n)
		if other, twice := seen[s]; twice || e != 0 {
			t.Errorf("%q, %d is the text of %s and of %s, Equal %t", s, e, dump(n), dump(trees[other]), tree.Equal(n, trees[other]))
		}
		seen[s] = i
	}
	for _, width := range []int{1, 5, 9, 14, 1000} {
		seen := map[string]int{}
		for i, n := range trees {
			s, e := Pretty(n, width)
			if other, twice := seen[s]; twice || e != 0 {
				t.Errorf("%q, %d are the lines of %s and of %s at %d", s, e, dump(n), dump(trees[other]), width)
			}
			seen[s] = i
		}
	}
}

// TestSmallTrees: PT1, PT2, PT3, each of them at every width up to one more than its text needs.
func TestSmallTrees(t *testing.T) {
	for i, n := range smallTrees() {
		if t.Failed() {
			return
		}
		holdPrint(t, n, told(n))
		root := n.Kind == 1 || n.Kind == 6
		if !root {
			for width := range len(told(n)) + 2 {
				holdPretty(t, n, width+1, told(n))
			}
			continue
		}
		s, e := Print(n)
		holdRead(t, n, s, e)
		if n.Kind == 1 && i%4 != 0 {
			continue // the lets, and a fourth of the many calls
		}
		for width := range len(s) + 1 {
			holdLaws(t, n, width+1)
		}
	}
}
