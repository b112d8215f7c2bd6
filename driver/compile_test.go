package driver

import (
	"fmt"
	"math"
	"slices"
	"strings"
	"testing"

	"lathe/api"
	"lathe/check"
	"lathe/code"
	"lathe/lower"
	"lathe/opt"
	"lathe/parse"
	"lathe/samples"
	"lathe/sign"
	"lathe/verify"
	"lathe/vm"
)

// told is what DR1 says of a text, a signature and passes: each layer is asked in its turn.
func told(text string, list []api.Param, passes int) (string, api.Errno, int) {
	if passes < 0 || passes > 31 {
		return "", errArg, 0
	}
	if e := sign.Check(list); e != api.OK {
		return "", e, 0
	}
	root, e, at := parse.Parse(text)
	if e != api.OK {
		return "", e, at
	}
	program, e, at := check.Check(root, list)
	if e != api.OK {
		return "", e, at
	}
	c, e := lower.Lower(program, list)
	if e != api.OK {
		return "", e, 0
	}
	if c, e = opt.Run(c, passes); e != api.OK {
		return "", e, 0
	}
	b, e := code.Encode(c)
	if e != api.OK {
		return "", e, 0
	}
	if e = verify.Check(c); e != api.OK {
		return "", e, 0
	}
	return b, api.OK, 0
}

// holdTold: DR1, what Compile answers is what the layers say, also when it is asked again; beside an error there is no bytecode; bytecode is
// taken by those that read it, over that signature. The error.
func holdTold(t *testing.T, text string, list []api.Param, passes int) api.Errno {
	t.Helper()
	b, e, at := Compile(text, list, passes)
	want, wantErr, wantAt := told(text, list, passes)
	if b != want || e != wantErr || at != wantAt {
		t.Fatalf("Compile(%q, %v, %d) = %d bytes, %d at %d, want %d, %d at %d", text, list, passes, len(b), e, at, len(want), wantErr, wantAt)
	}
	if again, e2, at2 := Compile(text, list, passes); again != b || e2 != e || at2 != at {
		t.Fatalf("Compile(%q, %v, %d) = %d at %d, then %d at %d", text, list, passes, e, at, e2, at2)
	}
	if e != api.OK {
		return e
	}
	c, e, _ := code.Decode(b)
	if e != api.OK || verify.Check(c) != api.OK || !slices.Equal(c.Sign, list) {
		t.Fatalf("Compile(%q, %v, %d): Decode %d, Check %d, Sign %v", text, list, passes, e, verify.Check(c), c.Sign)
	}
	if _, e := vm.New(b); e != api.OK {
		t.Fatalf("Compile(%q, %v, %d): vm.New %d", text, list, passes, e)
	}
	return api.OK
}

// holdError: DR1, Compile answers this error at this place, and nothing beside it.
func holdError(t *testing.T, text string, list []api.Param, passes int, want api.Errno, wantAt int) {
	t.Helper()
	if b, e, at := Compile(text, list, passes); b != "" || e != want || at != wantAt {
		t.Errorf("Compile(%.60q, %.60s, %d) = %d bytes, %d at %d, want %d at %d", text, fmt.Sprint(list), passes, len(b), e, at, want, wantAt)
	}
}

// wrongPasses are no choices of passes.
func wrongPasses() []int {
	return []int{-1, 32, -2, 33, -31, -32, 63, 64, 255, 1 << 16, 1 << 31, 1 << 32, -1 << 31, math.MaxInt32, math.MinInt32, math.MaxInt, math.MinInt, math.MinInt + 31}
}

// TestPasses: DR1, the passes from 0 to PassAll are taken, all others are ErrArg at 0.
func TestPasses(t *testing.T) {
	for passes := range subsets {
		holdTold(t, "adam(0.1)", real(2), passes)
	}
	compiled(t, "adam(0.1)", real(2), passAll)
	for _, passes := range wrongPasses() {
		holdError(t, "adam(0.1)", real(2), passes, errArg, 0)
	}
}

// wrongSignatures are some that may not be, by their errors.
func wrongSignatures() map[api.Errno][]api.Param {
	long := make([]api.Param, 65)
	for n := range long {
		long[n] = api.Param{Name: fmt.Sprint("p", n), Kind: 1, Len: 1}
	}
	total := slices.Clone(long[:17])
	for n := range total {
		total[n].Len = maxLen
	}
	return map[api.Errno][]api.Param{
		errLong: long, errParam: {{Name: "w", Kind: 3, Len: 1}}, errTwice: {{Name: "w", Kind: 1, Len: 1}, {Name: "w", Kind: 2, Len: 1}}, errTotal: total,
	}
}

// A wrongText is one whose first error stands at this place.
type wrongText struct {
	text string
	e    api.Errno
	at   int
}

// wrongTexts are texts that the layers 6 and 8, and those that the layers 7, 11, 12 and 13, do not take, over w, real, and z, complex.
func wrongTexts() (parsed, checked []wrongText) {
	deep := strings.Repeat("f(", 64)
	parsed = []wrongText{
		{"", errSyntax, 0}, {"scale(", errSyntax, 6}, {"  # nothing", errSyntax, 11}, {"scale(2) scale(2)", errSyntax, 9}, {"scale", errSyntax, 5},
		{strings.Repeat(" ", maxSource+1), errLong, 0}, {"scale(2)" + strings.Repeat(" ", maxSource-7), errLong, 0}, {"scale(2) $", errByte, 9}, {"\x00", errByte, 0}, {"Scale(2)", errByte, 0}, {`masked("w`, errText, 7},
		{"scale(1.)", errNumber, 6}, {"scale(" + strings.Repeat("1", 65) + ")", errLong, 6}, {strings.Repeat("a", 65), errLong, 0},
		{"scale(1e39)", errGreat, 6}, {"scale(2147483648)", errGreat, 6}, {deep + "f()", errDeep, 128}, {"f(" + strings.Repeat("1,", maxNodes-1) + "1)", errMany, 2 + 2*(maxNodes-1)},
		{"let true = 1; identity()", errSyntax, 4}, {"let a = 1;", errSyntax, 10},
	}
	checked = []wrongText{
		{"foo()", errName, 0}, {"chain(scale(2), foo())", errName, 16}, {"constant(1)", errName, 0}, {"scale_by_schedule(scale(2))", errName, 18},
		{"scale()", errArity, 0}, {"scale(1, 2)", errArity, 9}, {"chain()", errArity, 0}, {"adam()", errArity, 0}, {"scale(x=1)", errKey, 8}, {"adam(0.1, lr=2)", errKey, 13}, {"adam(rate=0.1, 0.9)", errKey, 15},
		{"scale(true)", errType, 6}, {"let a = b; scale(a)", errType, 17}, {"masked(1, identity())", errType, 7}, {"chain(1)", errType, 6},
		{"clip_by_global_norm(0.0)", errValue, 20}, {"trace(1.5)", errValue, 6}, {"multi_steps(0, identity())", errValue, 12},
		{`masked("q", identity())`, errNone, 7}, {"masked(f(), identity())", errMask, 7}, {"clip(1.0)", errComplex, 0}, {"chain(trace(0.5), clip(1.0))", errComplex, 18},
		{"let a = chain(identity(), identity()); " + strings.Repeat("let a = chain(a, a); ", 40) + "a", errSyntax, 39 + 40*21 + 1},
		{"let a = chain(identity(), identity()); " + strings.Repeat("let a = chain(a, a); ", 40) + "chain(a)", errMany, 0},
		{"let a = identity(); " + strings.Repeat("let a = chain(chain(chain(a))); ", 21) + "chain(a)", errDeep, 0},
	}
	return parsed, checked
}

// both is the signature of the wrong texts.
func both() []api.Param {
	return []api.Param{{Name: "w", Kind: 1, Len: 3}, {Name: "z", Kind: 2, Len: 2}}
}

// TestEachError: DR1, each error by itself, with its place, whatever the passes are.
func TestEachError(t *testing.T) {
	parsed, checked := wrongTexts()
	for _, passes := range []int{0, 1, 8, 16, 30, passAll} {
		for e, list := range wrongSignatures() {
			holdError(t, "identity()", list, passes, e, 0)
		}
		for _, x := range slices.Concat(parsed, checked) {
			holdError(t, x.text, both(), passes, x.e, x.at)
		}
	}
	for _, x := range checked {
		if x.e == errComplex {
			compiled(t, x.text, both()[:1], passAll)
			compiled(t, "split_real_and_imaginary("+x.text+")", both(), passAll)
		}
	}
}

// TestFirstError: DR1, of two errors the first one: passes, signature, text, tree.
func TestFirstError(t *testing.T) {
	parsed, checked := wrongTexts()
	for _, passes := range wrongPasses() {
		for _, list := range wrongSignatures() {
			holdError(t, "identity()", list, passes, errArg, 0)
			for _, x := range slices.Concat(parsed, checked) {
				holdError(t, x.text, list, passes, errArg, 0)
			}
		}
		for _, x := range slices.Concat(parsed, checked) {
			holdError(t, x.text, both(), passes, errArg, 0)
		}
	}
	for e, list := range wrongSignatures() {
		for _, x := range slices.Concat(parsed, checked) {
			holdError(t, x.text, list, 31, e, 0)
		}
	}
	for _, x := range checked {
		at := len(x.text) + 1
		holdError(t, x.text+" $", both(), 31, errByte, at)
		holdError(t, x.text+" identity()", both(), 31, errSyntax, at)
		holdError(t, x.text+"\n# more\n\"", both(), 31, errText, at+7)
	}
	for _, y := range []wrongText{{"$", errByte, 0}, {"12x", errNumber, 0}, {"1e39", errGreat, 0}, {"f(,)", errSyntax, 2}} {
		for _, ahead := range []string{"chain(foo(), scale(", "chain(clip(1.0), scale(", "chain(scale(), scale(", "chain(1, scale(", "chain(masked(\"q\", identity()), scale(", "chain(trace(1.5), scale("} {
			holdError(t, ahead+y.text+"))", both(), 31, y.e, len(ahead)+y.at)
		}
	}
}

// TestTooLong: DR1 and P4, the greatest texts and trees that may be, and one more.
func TestTooLong(t *testing.T) {
	list := real(1)
	holdTold(t, "scale(2)"+strings.Repeat(" ", maxSource-8), list, passAll)
	holdError(t, "scale(2)"+strings.Repeat(" ", maxSource-7), list, passAll, errLong, 0)
	deep := func(depth int) string {
		return strings.Repeat("chain(", depth-1) + "identity()" + strings.Repeat(")", depth-1)
	}
	holdTold(t, deep(maxDepth), list, passAll)
	holdError(t, deep(maxDepth+1), list, passAll, errDeep, 6*maxDepth)
	many := func(count int) string { return "chain(" + strings.Repeat("identity(),", count-2) + "identity())" }
	holdTold(t, many(maxNodes), list, passAll)
	holdError(t, many(maxNodes+1), list, passAll, errMany, 6+11*(maxNodes-1))
}

// harmed is a text in which something is changed, left out or put in.
func harmed(g *samples.Grower, text string) string {
	b := []byte(text)
	for range 1 + g.Below(2) {
		at := g.Below(len(b) + 1)
		switch g.Below(6) {
		case 0:
			b = b[:at]
		case 1:
			b = slices.Delete(b, at, min(at+1+g.Below(3), len(b)))
		case 2:
			b = slices.Insert(b, at, byte(g.Next()>>9))
		case 3:
			if at < len(b) {
				b[at] ^= 1 << g.Below(8)
			}
		case 4:
			pieces := []string{"(", ")", ",", "=", "-", ";", "1", "9999", "0.5", "1e39", `"w"`, "true", "let a = 1;", "clip(1.0)", "sgd(0.1)", "foo()", "all()", "constant(1)", " ", "#"}
			b = slices.Insert(b, at, []byte(pieces[g.Below(len(pieces))])...)
		case 5:
			other := g.Below(len(b) + 1)
			b = slices.Insert(b, at, b[min(at, other):max(at, other)]...)
		}
	}
	return string(b)
}

// TestLayerByLayer: DR1 and P4, texts from all over, as they are and harmed, over signatures that may be and that may not: the error and the
// place, or the bytecode, that the layers say.
func TestLayerByLayer(t *testing.T) {
	g := &samples.Grower{Source: 29}
	errors := map[api.Errno]int{}
	for n := range 6000 {
		list := g.Params(5)
		text := g.Text(list, 1+n%4)
		passes := g.Below(subsets)
		switch n % 4 {
		case 1, 2:
			text = harmed(g, text)
		case 3:
			if g.Below(8) == 0 && len(list) > 0 {
				list[g.Below(len(list))].Len = -g.Below(2)
			}
			if g.Below(8) == 0 {
				passes = []int{-1, 32, 1 << 20}[g.Below(3)]
			}
		}
		errors[holdTold(t, text, list, passes)]++
	}
	for _, e := range []api.Errno{api.OK, errArg, errByte, errText, errNumber, errSyntax, errGreat, errParam, errNone, errName, errArity, errKey, errType, errValue, errComplex} {
		if errors[e] < 3 {
			t.Errorf("%d: %d times: %v", e, errors[e], errors)
		}
	}
}

// TestCutTexts: P4, texts that are cut at every place.
func TestCutTexts(t *testing.T) {
	g := &samples.Grower{Source: 30}
	for range 60 {
		list := g.Params(3)
		text := text(g, list, 3)
		for at := range len(text) {
			holdTold(t, text[:at], list, g.Below(subsets))
			holdTold(t, text[at:], list, g.Below(subsets))
		}
	}
}

// TestAnyBytes: rule 1 and P4, texts of any bytes, and of any tokens, whatever the signature is.
func TestAnyBytes(t *testing.T) {
	g := &samples.Grower{Source: 31}
	tokens := strings.Fields(`( ( ) ) , , = - ; let a 1 0.5 "w" true chain scale sgd masked identity() scale(2) constant(1) # $ 1e39 "`)
	for n := range 20000 {
		var b []byte
		for range g.Below(24) {
			switch n % 3 {
			case 0:
				b = append(b, byte(g.Next()>>7))
			case 1:
				b = append(b, byte(32+g.Below(96)))
			case 2:
				b = append(append(b, tokens[g.Below(len(tokens))]...), "  \n"[g.Below(3)])
			}
		}
		list := []api.Param{{Name: string(b[:min(len(b), g.Below(4))]), Kind: g.Below(4), Len: g.Below(5) - 1}}
		holdTold(t, string(b), list, g.Below(subsets))
		holdTold(t, string(b), real(1), g.Below(subsets))
	}
}

// TestNoParameters: DR1 and DR2, over the signature without parameters everything has bytecode, and makes no updates.
func TestNoParameters(t *testing.T) {
	for passes := range subsets {
		for _, text := range []string{"identity()", "adam(0.1)", "clip(1.0)", "multi_steps(2, apply_if_finite(lamb(cosine(0.1, 9)), 3))", "partition(all(), scale(2), apply_every(2))"} {
			s := session(t, text, nil, passes)
			if u := stepped(t, s, nil, [][]api.F{}); len(u) != 0 {
				t.Errorf("%s: %08x", text, u)
			}
			if _, e := s.Step([][]api.F{{}}, nil); e != errInput {
				t.Errorf("%s: %d", text, e)
			}
		}
	}
}
