package parse

import (
	"strings"
	"testing"

	"lathe/api"
	"lathe/tree"
)

// nest is so many calls around a text.
func nest(around int, inner string) string {
	return strings.Repeat("f(", around) + inner + strings.Repeat(")", around)
}

// lets are so many, each on eight bytes.
func lets(count int) string {
	return strings.Repeat("let a=1;", count)
}

// holdDepth: the text is taken, and its tree has the greatest depth.
func holdDepth(t *testing.T, text string) {
	t.Helper()
	holdTaken(t, text)
	if n, _, _ := Parse(text); tree.Depth(n) != maxDepth {
		t.Errorf("Parse(%q) has the depth %d", brief(text), tree.Depth(n))
	}
}

// TestDeepByCalls: PR1, nodes of each kind at the depth MaxDepth and at one more, wherever they stand in their call.
func TestDeepByCalls(t *testing.T) {
	for _, value := range []string{"g()", "let()", "a", "true", "let", `"w"`, "1", "1.0", "-1", "- 1.0"} {
		for _, ahead := range []string{"", "k=", "#\n", "k = "} {
			holdDepth(t, nest(maxDepth-1, ahead+value))
			holdDepth(t, nest(maxDepth-2, "g(),"+ahead+value+", h("+ahead+value+")"))
			holdRefused(t, nest(maxDepth, ahead+value), api.ErrDeep, 2*maxDepth+len(ahead))
			holdRefused(t, nest(maxDepth+1, ahead+value), api.ErrDeep, 2*maxDepth)
			holdRefused(t, nest(maxDepth-1, "a,b=1,g("+ahead+value+")"), api.ErrDeep, 2*maxDepth+6+len(ahead))
		}
	}
	holdDepth(t, nest(maxDepth, ""))
	holdRefused(t, strings.Repeat("f(", maxSource/2), api.ErrDeep, 2*maxDepth)
	holdRefused(t, nest(maxDepth, "-"), api.ErrDeep, 2*maxDepth)
	holdRefused(t, nest(maxDepth, "- x"), api.ErrDeep, 2*maxDepth)
	holdRefused(t, nest(maxDepth, "k="), api.ErrSyntax, 2*maxDepth+2)
	holdRefused(t, nest(maxDepth, ","), api.ErrSyntax, 2*maxDepth)
	holdRefused(t, nest(maxDepth, "k;"), api.ErrDeep, 2*maxDepth)
	holdRefused(t, nest(maxDepth, "k=b=1"), api.ErrDeep, 2*maxDepth+2)
}

// TestDeepByLets: PR1, a let's value and its rest are one deeper than it.
func TestDeepByLets(t *testing.T) {
	holdDepth(t, lets(maxDepth-1)+"f()")
	holdDepth(t, lets(maxDepth-2)+"f(1)")
	holdDepth(t, lets(maxDepth-2)+"let a=g();f()")
	holdDepth(t, lets(maxDepth-2)+"let a=1;f()")
	holdRefused(t, lets(maxDepth)+"f()", api.ErrDeep, 8*(maxDepth-1)+6)
	holdRefused(t, lets(maxDepth-1)+"f(1)", api.ErrDeep, 8*(maxDepth-1)+2)
	holdRefused(t, lets(maxDepth-1)+"f(a=1)", api.ErrDeep, 8*(maxDepth-1)+4)
	holdRefused(t, lets(maxDepth-2)+"let a=g(1);f()", api.ErrDeep, 8*(maxDepth-2)+8)
	holdRefused(t, lets(maxDepth-2)+"f(g(1))", api.ErrDeep, 8*(maxDepth-2)+4)
	holdRefused(t, lets(maxSource/8), api.ErrDeep, 8*(maxDepth-1)+6)
	for count := range maxDepth {
		holdDepth(t, lets(count)+nest(maxDepth-count, ""))
		holdDepth(t, lets(count)+nest(maxDepth-count-1, "f()"))
		holdRefused(t, lets(count)+nest(maxDepth-count, "f()"), api.ErrDeep, 8*count+2*(maxDepth-count))
		if inner := maxDepth - count - 1; inner > 0 {
			holdDepth(t, lets(count)+"let b="+nest(inner, "")+";f()")
			holdRefused(t, lets(count)+"let b="+nest(inner, "g()")+";f()", api.ErrDeep, 8*count+6+2*inner)
		}
	}
}

// holdCount: the text is taken, and its tree has the greatest number of nodes.
func holdCount(t *testing.T, text string) {
	t.Helper()
	holdTaken(t, text)
	if n, _, _ := Parse(text); tree.Count(n) != maxNodes {
		t.Errorf("Parse(%q) has %d nodes", brief(text), tree.Count(n))
	}
}

// TestMany: PR1, MaxNodes nodes and one more, of each kind, by arguments, by calls in one another and by lets.
func TestMany(t *testing.T) {
	ones := strings.Repeat("1,", maxNodes) // some of them are taken, two bytes each
	for _, value := range []string{"g()", "a", "let", `"w"`, "1", "1.0", "-1", "- 1.0"} {
		for _, ahead := range []string{"", "k=", "#\n"} {
			holdCount(t, "f("+ones[:2*(maxNodes-2)]+ahead+value+")")
			holdRefused(t, "f("+ones[:2*(maxNodes-1)]+ahead+value+")", api.ErrMany, 2*maxNodes+len(ahead))
			holdRefused(t, "f("+ones[:2*(maxNodes-1)]+ahead+value+",a,b)", api.ErrMany, 2*maxNodes+len(ahead))
			holdRefused(t, "f("+ones[:2*(maxNodes-2)]+"g("+ahead+value+"))", api.ErrMany, 2*maxNodes+len(ahead))
		}
	}
	holdCount(t, "let a=1;f("+ones[:2*(maxNodes-4)]+"a)")
	holdRefused(t, "let a=1;f("+ones[:2*(maxNodes-3)]+"a)", api.ErrMany, 8+2*(maxNodes-2))
	most := "let a=f(" + ones[:2*(maxNodes-4)] // a let, a call and its arguments, of which one is to come
	holdCount(t, most+"1);f()")
	holdRefused(t, most+"1);f(a)", api.ErrMany, len(most)+5)
	holdRefused(t, most+"1,2); f()", api.ErrMany, len(most)+6)
	holdRefused(t, most+"1,2); f", api.ErrMany, len(most)+6)
	holdRefused(t, most+"1,2); let()", api.ErrMany, len(most)+6)
	holdRefused(t, most+"1,2); let b=1;f()", api.ErrMany, len(most)+6)
	holdRefused(t, most+"1);let b=1;f()", api.ErrMany, len(most)+9)
	holdRefused(t, most+"1,2);;", api.ErrSyntax, len(most)+5)
	holdRefused(t, strings.Repeat("f(", 60)+strings.Repeat("g(a),", maxNodes), api.ErrMany, 120+5*2018)
	holdRefused(t, "f("+ones[:2*(maxNodes-1)]+"-", api.ErrMany, 2*maxNodes)
	holdRefused(t, "f("+ones[:2*(maxNodes-1)]+"k=", api.ErrSyntax, 2*maxNodes+2)
	holdRefused(t, "f("+ones[:2*(maxNodes-1)]+")", api.ErrSyntax, 2*maxNodes)
}

// TestGreat: PR1, the greatest number and whole number, and what is above; with a minus the place is not that of the minus.
func TestGreat(t *testing.T) {
	const edge = "340282356779733661637539395458142568448" // 2^128 - 2^103
	below := "340282356779733661637539395458142568447.9"
	for _, text := range []string{"3.4028235e38", "3.4028235677e38", below, "000" + below, "340282346638528859811704183484516925440.0"} {
		holdTree(t, "f("+text+")", call(0, "f", number(2, 0x7f7fffff)))
		holdTree(t, "f(-"+text+")", call(0, "f", number(2, 0xff7fffff)))
	}
	zeros := strings.Repeat("0", maxName-10)
	for _, text := range []string{"2147483647", "0002147483647", zeros + "2147483647"} {
		holdTree(t, "f("+text+")", call(0, "f", whole(2, maxCount)))
		holdTree(t, "f(-"+text+")", call(0, "f", whole(2, -maxCount)))
	}
	for _, text := range []string{
		edge + ".0", edge + "e0", "3.4028236e38", "1e39", "1E+39", "1e999999999999999999999", "9" + strings.Repeat("9", 40) + ".0",
		"2147483648", "0002147483648", zeros + "2147483648", "4294967296", "4294967297", "9223372036854775807", "9223372036854775808", "18446744073709551616", "18446744073709551617", "36893488147419103233", edge, strings.Repeat("9", maxName),
	} {
		holdRefused(t, "f("+text+")", api.ErrGreat, 2)
		holdRefused(t, "f(-"+text+")", api.ErrGreat, 3)
		holdRefused(t, "f(a = - "+text+")", api.ErrGreat, 8)
		holdRefused(t, "f(1,g(a),"+text, api.ErrGreat, 9)
		holdRefused(t, "let a="+text, api.ErrGreat, 6)
		holdRefused(t, "let a=-"+text+";", api.ErrGreat, 7)
	}
}

// A maker is an argument that is at fault, and where.
type maker struct {
	text string
	e    api.Errno
	at   int
}

// makers are one of each error, as an argument of a call that has no other nodes ahead which weigh.
func makers() []maker {
	return []maker{
		{";", api.ErrSyntax, 0}, {"1 2", api.ErrSyntax, 2}, {"- x", api.ErrSyntax, 2},
		{nest(maxDepth-1, "1"), api.ErrDeep, 2 * (maxDepth - 1)}, {nest(maxDepth-1, "k=-x"), api.ErrDeep, 2*(maxDepth-1) + 2},
		{strings.Repeat("1,", maxNodes-1) + "1", api.ErrMany, 2 * (maxNodes - 1)},
		{"1e39", api.ErrGreat, 0}, {"- 2147483648", api.ErrGreat, 2},
	}
}

// TestTwoFaultsAtTwoTokens: PR1, the one that stands first, of all pairs in both orders.
func TestTwoFaultsAtTwoTokens(t *testing.T) {
	for _, first := range makers() {
		holdRefused(t, "f("+first.text+")", first.e, 2+first.at)
		for _, second := range makers() {
			holdRefused(t, "f("+first.text+","+second.text+")", first.e, 2+first.at)
			holdRefused(t, "f("+first.text+") "+second.text, first.e, 2+first.at)
			holdRefused(t, "f(#\n"+first.text+");"+second.text, first.e, 4+first.at)
		}
	}
}

// TestTwoFaultsAtOneToken: PR1, the one that the chapter names first.
func TestTwoFaultsAtOneToken(t *testing.T) {
	ones := strings.Repeat("1,", maxNodes)
	deep := strings.Repeat("f(", maxDepth)
	many := "f(" + ones[:2*(maxNodes-1)]
	both := strings.Repeat("f(", maxDepth-1) + ones[:2*(maxNodes-maxDepth)] + "f("
	for _, great := range []string{"1e39", "2147483648"} {
		for _, ahead := range []string{"f(1 ", "f ", "f() ", "let ", "let a ", "let a=1 ", "", "let a=1;", "f(a ", "f(- 1 "} {
			holdRefused(t, ahead+great, api.ErrSyntax, len(ahead))
		}
		for _, value := range []string{great, "-" + great, "- " + great} {
			holdRefused(t, deep+value, api.ErrDeep, len(deep))
			holdRefused(t, many+value, api.ErrMany, len(many))
			holdRefused(t, both+value, api.ErrDeep, len(both))
		}
	}
	for _, value := range []string{"g()", "a", `"w"`, "1", "1.0", "-1", "- x"} {
		holdRefused(t, both+value, api.ErrDeep, len(both))
	}
	for _, wrong := range []string{",", "=", "(", ";", ""} {
		for _, ahead := range []string{deep, many, both} {
			holdRefused(t, ahead+wrong, api.ErrSyntax, len(ahead))
		}
	}
}

// TestLexFirst: PR1, what lex says comes ahead of all, wherever it stands.
func TestLexFirst(t *testing.T) {
	faults := []maker{
		{"$", api.ErrByte, 0}, {"1.", api.ErrNumber, 0}, {"2x", api.ErrNumber, 0}, {`"ab`, api.ErrText, 0}, {"a " + strings.Repeat("b", maxName+1), api.ErrLong, 2},
		{strings.Repeat("1", maxName+1), api.ErrLong, 0}, {`"` + strings.Repeat("w", maxName+1) + `"`, api.ErrLong, 0}, {"f() A", api.ErrByte, 4},
	}
	for _, fault := range faults {
		holdRefused(t, fault.text, fault.e, fault.at)
		holdRefused(t, "f() "+fault.text, fault.e, 4+fault.at)
		for _, m := range makers() {
			ahead := "f(" + m.text + ") "
			holdRefused(t, ahead+fault.text, fault.e, len(ahead)+fault.at)
			holdRefused(t, fault.text+" "+ahead, fault.e, fault.at)
		}
	}
	long := strings.Repeat(" ", maxSource)
	for _, text := range []string{"f()", "", "f(", "$", "1e39", strings.Repeat("f(", maxDepth+1)} {
		holdRefused(t, text+long+" ", api.ErrLong, 0)
		holdRefused(t, long+" "+text, api.ErrLong, 0)
	}
	holdTaken(t, "f()"+long[3:])
	holdRefused(t, "f("+long[2:], api.ErrSyntax, maxSource)
	holdRefused(t, long, api.ErrSyntax, maxSource)
}
