package parse

import (
	"slices"
	"strings"
	"testing"

	"lathe/api"
	"lathe/lex"
)

// kinds are tokens of each kind but the end, by their numbers.
func kinds() [][]string {
	return [][]string{1: {"x", "let", "true", "false"}, 2: {"1.5", "1e39"}, 3: {"7", "2147483648"}, 4: {`""`, `"w"`}, 5: {"("}, 6: {")"}, 7: {","}, 8: {"="}, 9: {"-"}, 10: {";"}}
}

// A place of the grammar: what stands ahead, and the kinds that can stand there.
type place struct {
	ahead string
	can   []int
}

// isLets tells whether a name that stands there is the one that a let gives.
func (p place) isLets() bool {
	return strings.TrimSpace(p.ahead) == "let" || strings.HasSuffix(p.ahead, "; let ")
}

// places are all of the grammar: ahead of each token of each rule.
func places() []place {
	value := []int{1, 2, 3, 4, 9}
	list := []place{
		{"", []int{1}}, {"f", []int{5}}, {"let", []int{1, 5}}, {"true", []int{5}}, {"let a", []int{8}}, {"let let", []int{8}},
		{"let a =", value}, {"let a = -", []int{2, 3}}, {"let a = b", []int{5, 10}}, {"let a = let", []int{5, 10}}, {"let a = true", []int{5, 10}},
		{"let a = b (", append(value, 6)}, {"let a = b ( c", []int{5, 6, 7, 8}}, {"let a = 1 ;", []int{1}}, {"let a = 1 ; f", []int{5}}, {"let a = 1 ; let", []int{1, 5}}, {"let a = 1 ; let b", []int{8}}, {"let a = 1 ; let b =", value}, {"let a = 1 ; let b = 2 ;", []int{1}},
		{"f (", append(value, 6)}, {"f ( a", []int{5, 6, 7, 8}}, {"f ( let", []int{5, 6, 7, 8}}, {"f ( true", []int{5, 6, 7, 8}}, {"f ( a =", value}, {"f ( a = b", []int{5, 6, 7}}, {"f ( a = let", []int{5, 6, 7}},
		{"f ( -", []int{2, 3}}, {"f ( a = -", []int{2, 3}}, {"f ( 1 , -", []int{2, 3}}, {"f ( 1 ,", value}, {"f ( a = 1 ,", value}, {"f ( 1 , a", []int{5, 6, 7, 8}}, {"f ( 1 , a =", value}, {"f ( g (", append(value, 6)}, {"f ( a = g (", append(value, 6)},
		{"f ( )", []int{0}}, {"f ( 1 )", []int{0}}, {"let ( )", []int{0}}, {"let a = 1 ; f ( )", []int{0}}, {"let a = 1 ; let ( a )", []int{0}},
	}
	for _, whole := range []string{"1", "1.5", `"w"`, "- 1", "- 1.5", "g ( )", "g ( 1 , a = b )", "let ( )"} {
		list = append(list, place{"let a = " + whole, []int{10}}, place{"f ( " + whole, []int{6, 7}}, place{"f ( a = " + whole, []int{6, 7}}, place{"f ( g ( 1 , " + whole, []int{6, 7}})
	}
	return list
}

// TestEachKindAtEachPlace: PR1, PR2, what can't stand there is told at its place, whatever follows; what can stand there is not.
func TestEachKindAtEachPlace(t *testing.T) {
	for _, p := range places() {
		p.ahead += " "
		at := len(p.ahead)
		if !slices.Contains(p.can, 0) {
			holdRefused(t, p.ahead, api.ErrSyntax, at)
		} else {
			holdTaken(t, p.ahead)
		}
		for kind, tokens := range kinds() {
			for _, token := range tokens {
				if slices.Contains(p.can, kind) && !(p.isLets() && (token == "true" || token == "false")) {
					holdBeginning(t, p.ahead+token, at)
					continue
				}
				for _, behind := range []string{"", " ", ")", " 1e39", " ; f()", " ( ) ", " = 1 ; f ( )", " x"} {
					holdRefused(t, p.ahead+token+behind, api.ErrSyntax, at)
				}
			}
		}
	}
}

// holdBeginning: the text may be wrong behind its last token, or by this token's number, but not because it stands there.
func holdBeginning(t *testing.T, text string, at int) {
	t.Helper()
	_, e, place := Parse(text)
	great := e == api.ErrGreat && place == at && (strings.HasSuffix(text, "1e39") || strings.HasSuffix(text, "2147483648"))
	if !great && e != 0 && !(e == api.ErrSyntax && place == len(text)) {
		t.Errorf("Parse(%q) = %d at %d", text, e, place)
	}
}

// program has all of the grammar.
const program = `let lr = warmup(0.1, 2, constant(value=-0.001)); # the rate
let n = -3;
let mask = not("b*", other=true);
let let = lr;
chain(clip(-1.0), masked(mask, trace(0.5, nesterov = false)), every(n, k=- 7), let(), "")
`

// TestEndsAtEachToken: PR1, a text that ends ahead of a token is wrong at its end, with blanks, a comment or nothing there.
func TestEndsAtEachToken(t *testing.T) {
	holdTaken(t, program)
	list, e, _ := lex.Scan(program)
	if e != 0 || len(list) != 80 {
		t.Fatal(e, len(list))
	}
	for _, token := range list[:len(list)-1] {
		ahead := program[:token.At]
		for _, text := range []string{ahead, strings.TrimRight(ahead, " "), ahead + "\t\n ", ahead + "# " + program[token.At:token.At+1]} {
			holdRefused(t, text, api.ErrSyntax, len(text))
		}
	}
	holdTaken(t, program[:len(program)-1])
	holdTaken(t, program+"#")
}

// TestEachTokenChanged: PR2, one is left out, stands twice, is another, or has another ahead of it.
func TestEachTokenChanged(t *testing.T) {
	list, _, _ := lex.Scan(program)
	var words []string
	for _, token := range list[:len(list)-1] {
		words = append(words, lex.Show([]api.Token{token}))
	}
	for i := range words {
		holdOracle(t, slices.Delete(slices.Clone(words), i, i+1))
		holdOracle(t, slices.Insert(slices.Clone(words), i, words[i]))
		for _, tokens := range kinds() {
			for _, token := range tokens {
				changed := slices.Clone(words)
				changed[i] = token
				holdOracle(t, changed)
				holdOracle(t, slices.Insert(slices.Clone(words), i, token))
			}
		}
	}
}
