package alias

import (
	"slices"

	"lathe/api"
)

// rate is the argument of all rows that can't be left out.
const rate = "rate"

// An argument is one that a row names.
type argument struct {
	name  string
	value api.Node // what it is where it is left out
}

// A row is an alias: its arguments in order, and what a call of it becomes.
type row struct {
	takes   []argument
	becomes func(parts) api.Node
}

// give are the nodes that a call gives for the row's arguments, by their names; or its first fault, and the place of that.
func (r row) give(call *api.Node) (map[string]api.Node, api.Errno, int) {
	given := map[string]api.Node{}
	for i, arg := range call.Args {
		name, e := r.meant(arg.Key, call.Args[:i])
		if _, twice := given[name]; twice {
			e = api.ErrKey
		}
		if e != api.OK {
			return nil, e, arg.At
		}
		arg.Key = ""
		given[name] = arg
	}
	if _, ok := given[rate]; !ok {
		return nil, api.ErrArity, call.At
	}
	return given, api.OK, 0
}

// meant is the name of the row's argument for which one with that Key is given behind those ahead of it.
func (r row) meant(key string, ahead []api.Node) (string, api.Errno) {
	switch {
	case key != "" && !r.has(key):
		return "", api.ErrKey
	case key != "":
		return key, api.OK
	case slices.ContainsFunc(ahead, hasKey):
		return "", api.ErrKey
	case len(ahead) >= len(r.takes):
		return "", api.ErrArity
	}
	return r.takes[len(ahead)].name, api.OK
}

func (r row) has(name string) bool {
	return slices.ContainsFunc(r.takes, func(a argument) bool { return a.name == name })
}

func hasKey(n api.Node) bool { return n.Key != "" }

// parts are those of a call without a fault.
func (r row) parts(call *api.Node) parts {
	given, _, _ := r.give(call)
	for _, a := range r.takes {
		if _, ok := given[a.name]; !ok {
			value := a.value
			value.At = call.At
			given[a.name] = value
		}
	}
	return parts{given, call.At}
}
