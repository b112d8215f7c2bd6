package tree

import (
	"lathe/api"
	"lathe/bits"
)

// Check tells whether a tree may be.
func Check(n api.Node) api.Errno {
	if e := measure(&n); e != api.OK {
		return e
	}
	fault := api.OK
	walk(&n, top(), func(n *api.Node, at spot) bool {
		fault = judge(n, at.above)
		return fault == api.OK
	})
	return fault
}

// measure is the error of a tree that is too great. The walk goes on behind MaxNodes, for a node that is too deep may yet come.
func measure(n *api.Node) api.Errno {
	count := 0
	shallow := walk(n, top(), func(_ *api.Node, at spot) bool {
		count++
		return at.depth <= api.MaxDepth
	})
	switch {
	case !shallow:
		return api.ErrDeep
	case count > api.MaxNodes:
		return api.ErrMany
	}
	return api.OK
}

// judge is the error of one node, where none ahead of it has one.
func judge(n, above *api.Node) api.Errno {
	switch {
	case len(n.Name) > api.MaxName || len(n.Key) > api.MaxName:
		return api.ErrLong
	case !keyMayBe(n.Key, above) || !kindMayBe(n) || !standsWell(n, above):
		return api.ErrTree
	}
	return api.OK
}

// keyMayBe tells whether a node may have the Key. (That the arguments of a let have none, the let itself asks.)
func keyMayBe(key string, above *api.Node) bool {
	return key == "" || above != nil && isName(key)
}

// kindMayBe tells whether a node's parts are those of its Kind.
func kindMayBe(n *api.Node) bool {
	switch n.Kind {
	case api.NodeCall:
		return isName(n.Name) && hasNoValue(n)
	case api.NodeNumber:
		return n.Name == "" && isFinite(n.Num) && n.Int == 0 && len(n.Args) == 0
	case api.NodeWhole:
		return n.Name == "" && n.Num == api.Zero && -api.MaxCount <= n.Int && n.Int <= api.MaxCount && len(n.Args) == 0
	case api.NodeName:
		return isName(n.Name) && hasNoValue(n) && len(n.Args) == 0
	case api.NodeText:
		return isText(n.Name) && hasNoValue(n) && len(n.Args) == 0
	case api.NodeLet:
		return isName(n.Name) && n.Name != "true" && n.Name != "false" && hasNoValue(n) && bindsWell(n.Args)
	}
	return false
}

// standsWell tells whether a node may stand there. The let above has been judged: a let under it is its rest.
func standsWell(n, above *api.Node) bool {
	return n.Kind != api.NodeLet || above == nil || above.Kind == api.NodeLet
}

// bindsWell tells whether these may be a let's arguments.
func bindsWell(args []api.Node) bool {
	if len(args) != 2 {
		return false
	}
	value, rest := &args[0], &args[1]
	return value.Kind != api.NodeLet && (rest.Kind == api.NodeLet || rest.Kind == api.NodeCall) && value.Key == "" && rest.Key == ""
}

func hasNoValue(n *api.Node) bool { return n.Num == api.Zero && n.Int == 0 }

func isFinite(a api.F) bool {
	class := bits.Class(a)
	return class != bits.Infinite && class != bits.NotNumber
}

func isName(s string) bool {
	for i := range len(s) {
		if !isLetter(s[i]) && (i == 0 || !isDigit(s[i])) {
			return false
		}
	}
	return s != ""
}

func isText(s string) bool {
	for i := range len(s) {
		if c := s[i]; c < ' ' || c > '~' || c == '"' {
			return false
		}
	}
	return true
}

func isLetter(c byte) bool { return 'a' <= c && c <= 'z' || c == '_' }

func isDigit(c byte) bool { return '0' <= c && c <= '9' }
