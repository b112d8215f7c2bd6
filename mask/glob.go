package mask

import "strings"

// Match tells whether a glob means a name.
//
// Between its stars a glob has pieces: the first one stands where the name begins, the last one where it ends. Each of the others is taken
// where it is found first: no other choice leaves more of the name to those behind it, so none must be taken back.
func Match(glob, name string) bool {
	first, last := strings.IndexByte(glob, '*'), strings.LastIndexByte(glob, '*')
	if first < 0 {
		return fits(glob, name)
	}
	head, tail := glob[:first], glob[last+1:]
	end := len(name) - len(tail)
	if end < len(head) || !fits(head, name[:len(head)]) || !fits(tail, name[end:]) {
		return false
	}
	rest := name[len(head):end]
	for piece := range strings.SplitSeq(glob[first:last+1], "*") {
		at, found := find(piece, rest)
		if !found {
			return false
		}
		rest = rest[at+len(piece):]
	}
	return true
}

// fits tells whether a piece without stars means a whole text.
func fits(piece, text string) bool {
	if len(piece) != len(text) {
		return false
	}
	for i := range len(piece) {
		if piece[i] != '?' && piece[i] != text[i] {
			return false
		}
	}
	return true
}

// find is the first place of a text at which a piece without stars stands.
func find(piece, text string) (int, bool) {
	for at := 0; at+len(piece) <= len(text); at++ {
		if fits(piece, text[at:at+len(piece)]) {
			return at, true
		}
	}
	return 0, false
}
