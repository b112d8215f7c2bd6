package mask

import (
	"slices"
	"strings"
	"testing"

	"lathe/api"
	"lathe/samples"
)

// A grower makes names, globs, signatures and masks from all over, the same ones in each run.
type grower struct {
	samples.Source
}

func (g *grower) upTo(n int) int { return int(g.Next()>>8) % n }

// bytes are n of those.
func (g *grower) bytes(of string, n int) string {
	var b strings.Builder
	for range n {
		b.WriteByte(of[g.upTo(len(of))])
	}
	return b.String()
}

// globOf is a glob that means the name. (A star or a mark of the name may stand in it: that means itself too.)
func (g *grower) globOf(name string) string {
	var b strings.Builder
	for i := 0; i < len(name); i++ {
		switch g.upTo(6) {
		case 0:
			b.WriteByte('?')
		case 1:
			b.WriteByte('*')
			i += g.upTo(len(name)-i) - 1
		case 2:
			b.WriteString("*" + name[i:i+1])
		default:
			b.WriteByte(name[i])
		}
	}
	return b.String() + strings.Repeat("*", g.upTo(5)/3)
}

// spoilt is the text with one byte changed, put in or left out.
func (g *grower) spoilt(text string) string {
	at := g.upTo(len(text) + 1)
	one := g.bytes("ab*?", 1)
	switch {
	case g.upTo(3) == 0:
		return text[:at] + one + text[at:]
	case at == len(text):
		return text[:max(at-1, 0)]
	case g.upTo(2) == 0:
		return text[:at] + one + text[at+1:]
	}
	return text[:at] + text[at+1:]
}

// signature has few parameters, mostly; names may stand twice, and kinds be none.
func (g *grower) signature() []api.Param {
	var list []api.Param
	for range []int{0, 1, 2, 3, 5, 8, 20}[g.upTo(7)] {
		list = append(list, api.Param{Name: g.bytes("aab*?", g.upTo(5)), Kind: []int{1, 1, 2, 2, 0, 3}[g.upTo(6)], Len: g.UpTo(9)})
	}
	return list
}

// leaf is a mask without arguments: mostly one without a fault, if the list has names.
func (g *grower) leaf(list []api.Param) api.Node {
	if len(list) > 0 && g.upTo(3) > 0 {
		return glob(g.globOf(list[g.upTo(len(list))].Name))
	}
	return call([]string{"all", "none", "real", "complex"}[g.upTo(4)])
}

// mask is one of at most that depth.
func (g *grower) mask(list []api.Param, depth int) api.Node {
	if depth == 1 || g.upTo(4) == 0 {
		return g.leaf(list)
	}
	if g.upTo(3) == 0 {
		return call("not", g.mask(list, depth-1))
	}
	n := call([]string{"and", "or"}[g.upTo(2)])
	for range 1 + g.upTo(3) {
		n.Args = append(n.Args, g.mask(list, depth-1))
	}
	return n
}

// harmed is the tree with one of its nodes changed: mostly a fault.
func (g *grower) harmed(n api.Node) api.Node {
	if len(n.Args) > 0 && g.upTo(4) > 0 {
		i := g.upTo(len(n.Args))
		n.Args = slices.Clone(n.Args)
		n.Args[i] = g.harmed(n.Args[i])
		return n
	}
	switch g.upTo(8) {
	case 0:
		n.Key = "k"
	case 1:
		n.Kind = g.upTo(8)
	case 2:
		n.Name = g.spoilt(n.Name)
	case 3:
		n.Args = nil
	case 4:
		n.Args = append(slices.Clone(n.Args), call("all"))
	case 5:
		return glob("a?" + n.Name + "b")
	case 6:
		n.Name = []string{"all", "none", "real", "complex", "not", "and", "or", "nor"}[g.upTo(8)]
	case 7:
		return nest(g.upTo(2*maxDepth), n)
	}
	return n
}

// holdTold: M2, Set answers what the chapter's words say.
func holdTold(t *testing.T, n api.Node, list []api.Param) api.Errno {
	t.Helper()
	want, e, at := told(n, list)
	if e != api.OK {
		holdFault(t, n, list, e, at)
	} else {
		holdSet(t, n, list, want...)
	}
	return e
}

// holdAlike: Set answers the same of two trees.
func holdAlike(t *testing.T, a, b api.Node, list []api.Param) {
	t.Helper()
	first, e, at := Set(a, list)
	second, f, place := Set(b, list)
	if !slices.Equal(first, second) || e != f || at != place {
		t.Errorf("Set of %s: %v, %d, %d; of %s: %v, %d, %d; with %s", brief(dump(a)), first, e, at, brief(dump(b)), second, f, place, brief(dumpList(list)))
	}
}

// holdLaws: M3, at two masks; where they are at fault, the same node says the same error.
func holdLaws(t *testing.T, a, b api.Node, list []api.Param) {
	t.Helper()
	if max(depthOf(a), depthOf(b)) > maxDepth-2 {
		return
	}
	a.Key, b.Key = "", ""
	holdAlike(t, a, call("not", call("not", a)), list)
	holdAlike(t, call("not", call("and", a, b)), call("or", call("not", a), call("not", b)), list)
	holdAlike(t, call("not", call("or", a, b)), call("and", call("not", a), call("not", b)), list)
	its, e, _ := Set(a, list)
	others, f, _ := Set(call("not", a), list)
	if e != f || e == api.OK && !slices.Equal(together(its, others), chosen(list, func(int) bool { return true })) {
		t.Errorf("%s means %v, its not %v, %d and %d", brief(dump(a)), its, others, e, f)
	}
	if !slices.IsSorted(its) || len(slices.Compact(slices.Clone(its))) != len(its) {
		t.Errorf("%s means %v, which do not rise", brief(dump(a)), its)
	}
}

// TestMasksFromAllOver: M2 and M3, at masks of all shapes and at trees that are none.
func TestMasksFromAllOver(t *testing.T) {
	g, count := &grower{samples.Source(112)}, map[api.Errno]int{}
	for range 20000 {
		list := g.signature()
		a, b := g.mask(list, 1+g.upTo(6)), g.mask(list, 1+g.upTo(4))
		if g.upTo(2) == 0 {
			a = g.harmed(a)
		}
		if g.upTo(4) == 0 {
			b = g.harmed(b)
		}
		a, b = numbered(g.UpTo(1000), a), numbered(g.UpTo(1000), b)
		count[holdTold(t, a, list)]++
		holdTold(t, call("and", a, b), list)
		holdTold(t, call("or", a, b), list)
		holdLaws(t, a, b, list)
	}
	if count[api.OK] < 8000 || count[api.ErrDeep] < 500 || count[api.ErrMask] < 2000 || count[api.ErrNone] < 500 {
		t.Errorf("%v: that tells too little", count)
	}
}

// TestSmallMasks: M2 and M3, all trees of few nodes, masks and others.
func TestSmallMasks(t *testing.T) {
	list := []api.Param{is("w", kindReal), is("b", kindReal), is("z", kindComplex), is("", 0), is("w", kindComplex)}
	small := []api.Node{glob("w"), glob("?"), glob("x"), call("all"), call("real"), call("not"), keyed("k", glob("b")), {Kind: nodeName, Name: "all"}}
	trees := slices.Clone(small)
	for _, name := range []string{"all", "complex", "not", "and", "or", "w"} {
		for _, a := range small {
			trees = append(trees, call(name, a))
			for _, b := range small {
				trees = append(trees, call(name, a, b))
			}
		}
	}
	for _, a := range trees {
		for _, b := range trees {
			if t.Failed() {
				return
			}
			holdTold(t, numbered(50, call("and", a, b)), list)
			holdTold(t, numbered(50, call("or", a, b)), list)
		}
		holdTold(t, numbered(50, a), list)
		holdTold(t, numbered(50, call("not", a)), list)
		holdLaws(t, numbered(50, a), numbered(70, trees[len(trees)/2]), list)
	}
}
