package parse

import (
	"strconv"

	"lathe/api"
	"lathe/decimal"
	"lathe/float"
)

// A reader goes down the grammar, and gives up by panic at the first token that is at fault.
type reader struct {
	tokens []api.Token
	next   int // the first token that is not taken yet
	nodes  int // how many have begun
}

// giveUp leaves all that goes on, with the next token at fault.
func (r *reader) giveUp(e api.Errno) {
	panic(fault{errno: e, at: r.tokens[r.next].At})
}

// is tells whether the next token is of a kind.
func (r *reader) is(kind int) bool {
	return r.tokens[r.next].Kind == kind
}

// isNameAhead tells whether the next token is a name, and the one behind it of a kind.
func (r *reader) isNameAhead(kind int) bool {
	return r.is(api.TokenName) && r.tokens[r.next+1].Kind == kind
}

// need gives up, if the next token is not of the only kind that can stand there.
func (r *reader) need(kind int) {
	if !r.is(kind) {
		r.giveUp(api.ErrSyntax)
	}
}

// take is the text of the next token, which must be of that kind, and goes on behind it.
func (r *reader) take(kind int) string {
	r.need(kind)
	r.next++
	return r.tokens[r.next-1].Text
}

// skip goes on behind the next token, if it is of that kind.
func (r *reader) skip(kind int) bool {
	if !r.is(kind) {
		return false
	}
	r.next++
	return true
}

// begin is a node without a kind, at the next token. It is asked behind need: what can't stand there comes ahead of the limits.
func (r *reader) begin(depth int) api.Node {
	if depth > api.MaxDepth {
		r.giveUp(api.ErrDeep)
	}
	r.nodes++
	if r.nodes > api.MaxNodes {
		r.giveUp(api.ErrMany)
	}
	return api.Node{At: r.tokens[r.next].At}
}

// program is all of the tokens.
func (r *reader) program() api.Node {
	n := r.rest(1)
	r.need(api.TokenEnd)
	return n
}

// rest is what stands at the beginning or behind a let's semicolon: a let with its own rest, or the call.
func (r *reader) rest(depth int) api.Node {
	if !r.isNameAhead(api.TokenName) || r.tokens[r.next].Text != "let" {
		return r.call(depth)
	}
	n := r.begin(depth)
	n.Kind = api.NodeLet
	r.take(api.TokenName)
	n.Name = r.letName()
	r.take(api.TokenEqual)
	value := r.value(depth + 1)
	r.take(api.TokenSemi)
	n.Args = []api.Node{value, r.rest(depth + 1)}
	return n
}

// letName is the name that a let gives: true and false mean themselves.
func (r *reader) letName() string {
	if text := r.tokens[r.next].Text; text == "true" || text == "false" {
		r.giveUp(api.ErrSyntax)
	}
	return r.take(api.TokenName)
}

// call is a call with its arguments.
func (r *reader) call(depth int) api.Node {
	r.need(api.TokenName)
	n := r.begin(depth)
	n.Kind = api.NodeCall
	n.Name = r.take(api.TokenName)
	r.take(api.TokenOpen)
	if r.skip(api.TokenClose) {
		return n
	}
	n.Args = append(n.Args, r.argument(depth+1))
	for r.skip(api.TokenComma) {
		n.Args = append(n.Args, r.argument(depth+1))
	}
	r.take(api.TokenClose)
	return n
}

// argument is a value, with its key if it has one.
func (r *reader) argument(depth int) api.Node {
	key := ""
	if r.isNameAhead(api.TokenEqual) {
		key = r.take(api.TokenName)
		r.take(api.TokenEqual)
	}
	n := r.value(depth)
	n.Key = key
	return n
}

// value is what an argument or a let can be.
func (r *reader) value(depth int) api.Node {
	switch {
	case r.isNameAhead(api.TokenOpen):
		return r.call(depth)
	case r.is(api.TokenName):
		return r.leaf(api.NodeName, depth)
	case r.is(api.TokenText):
		return r.leaf(api.NodeText, depth)
	case r.is(api.TokenMinus), r.is(api.TokenNumber), r.is(api.TokenWhole):
		return r.signed(depth)
	}
	r.giveUp(api.ErrSyntax)
	return api.Node{}
}

// leaf is a node of the next token alone, whose text it has.
func (r *reader) leaf(kind, depth int) api.Node {
	n := r.begin(depth)
	n.Kind = kind
	n.Name = r.tokens[r.next].Text
	r.next++
	return n
}

// signed is a number or a whole number, with or without a minus, which is then the node's first token.
func (r *reader) signed(depth int) api.Node {
	n := r.begin(depth)
	negative := r.skip(api.TokenMinus)
	if r.is(api.TokenNumber) {
		n.Kind, n.Num = api.NodeNumber, r.number()
		if negative {
			n.Num = float.Neg(n.Num)
		}
		return n
	}
	n.Kind, n.Int = api.NodeWhole, r.whole()
	if negative {
		n.Int = -n.Int
	}
	return n
}

// number is that of the next token, which is a number with a point or an exponent.
func (r *reader) number() api.F {
	num, e := decimal.Parse(r.tokens[r.next].Text)
	if e != api.OK {
		r.giveUp(e)
	}
	r.next++
	return num
}

// whole is the whole number of the next token, which must be one.
func (r *reader) whole() int {
	r.need(api.TokenWhole)
	num, err := strconv.Atoi(r.tokens[r.next].Text)
	if err != nil || num > api.MaxCount {
		r.giveUp(api.ErrGreat)
	}
	r.next++
	return num
}
