package sign

import (
	"strings"

	"lathe/api"
)

// mayNotBe tells whether a parameter has a name, a kind or a length that can't be, whatever stands beside it.
func mayNotBe(p api.Param) bool {
	isKind := p.Kind == api.KindReal || p.Kind == api.KindComplex
	isLen := p.Len >= 1 && p.Len <= api.MaxLen
	return !isName(p.Name) || !isKind || !isLen
}

// isName tells whether a parameter may have that name.
func isName(name string) bool {
	if name == "" || len(name) > api.MaxName {
		return false
	}
	for i := range len(name) {
		if !inName(name[i]) {
			return false
		}
	}
	return true
}

// inName tells whether a byte may stand in a name, at any place of it.
func inName(b byte) bool {
	isLetter := b >= 'A' && b <= 'Z' || b >= 'a' && b <= 'z'
	isDigit := b >= '0' && b <= '9'
	return isLetter || isDigit || strings.IndexByte("_./-", b) >= 0
}
