package parse

import (
	"slices"
	"strings"
	"testing"
)

// explore holds all texts that begin with these tokens, have at most so many behind them of these pieces, and of which all but the last can stand there.
func explore(t *testing.T, tokens []string, left int, pieces []string) int {
	t.Helper()
	ways, at := start(), 0
	for _, token := range tokens {
		ways = advance(ways, token, at)
		at += len(token) + 1
	}
	return grow(t, ways, slices.Clip(tokens), at, left, pieces)
}

func grow(t *testing.T, ways []way, tokens []string, at, left int, pieces []string) int {
	t.Helper()
	want, place := judge(ways, nil, at)
	holdJudged(t, tokens, want, place)
	count := 1
	if left == 0 || t.Failed() {
		return count
	}
	for _, piece := range pieces {
		longer := append(tokens[:len(tokens):len(tokens)], piece)
		if next := advance(ways, piece, at); len(next) > 0 {
			count += grow(t, next, longer, at+len(piece)+1, left-1, pieces)
			continue
		}
		want, place := blame(ways, at)
		holdJudged(t, longer, want, place)
		count++
	}
	return count
}

// repeat is tokens so many times, one behind the other.
func repeat(count int, tokens string) []string {
	return strings.Fields(strings.Repeat(tokens+" ", count))
}

// TestAllShortPrograms: PR1 to PR3, all beginnings of programs, and each of them with a token more.
func TestAllShortPrograms(t *testing.T) {
	all := []string{"let", "true", "a", "7", "0.5", "1e39", "2147483648", `"w"`, "(", ")", ",", "=", "-", ";"}
	few := []string{"let", "a", "7", "(", ")", ",", "=", ";"}
	count := explore(t, nil, 7, all) + explore(t, nil, 11, few)
	count += explore(t, strings.Fields("let b = f ( 0.5 ) ;"), 7, few) + explore(t, strings.Fields("let b = f ( a = 7 ,"), 5, all)
	if count < 100000 {
		t.Error("only", count, "texts")
	}
}

// TestAllNearDepth: PR1, PR2, all that can stand about the greatest depth, by calls, by lets and by both.
func TestAllNearDepth(t *testing.T) {
	pieces := []string{"let", "a", "7", "1e39", `"w"`, "(", ")", ",", "=", "-", ";"}
	for _, left := range []int{61, 62, 63, 64} {
		explore(t, repeat(left, "f ("), 5, pieces)
		explore(t, repeat(left, "f ( 7 , k = "), 4, pieces)
	}
	for _, left := range []int{61, 62, 63} {
		explore(t, repeat(left, "let a = 7 ;"), 6, pieces)
	}
	for lets := range 62 {
		explore(t, append(repeat(lets, "let a = b ;"), repeat(62-lets, "f (")...), 3, pieces)
		explore(t, append(append(repeat(lets, "let a = b ;"), "let", "a", "="), repeat(61-lets, "f (")...), 3, pieces)
	}
}

// TestAllNearNodes: PR1, PR2, all that can stand about the greatest number of nodes, in a call and behind a let.
func TestAllNearNodes(t *testing.T) {
	pieces := []string{"let", "a", "7", "1e39", "(", ")", ",", "=", "-", ";"}
	for _, left := range []int{4093, 4094, 4095} {
		explore(t, append([]string{"f", "("}, repeat(left, "7 ,")...), 3, pieces)
		list := append(strings.Fields("let a = f ("), repeat(left-2, "7 ,")...)
		explore(t, append(list, "7", ")", ";"), 3, pieces)
	}
}
