package bits

import "lathe/api"

const (
	hexDigits = "0123456789abcdef"
	hexLength = 8
)

// Hex is a pattern as eight digits.
func Hex(a api.F) string {
	var text [hexLength]byte
	for i := range text {
		text[i] = hexDigits[a>>(4*(hexLength-1-i))&15]
	}
	return string(text[:])
}

// Read reads eight digits.
func Read(s string) (api.F, bool) {
	if len(s) != hexLength {
		return 0, false
	}
	var a api.F
	for i := range hexLength {
		digit, ok := hexValue(s[i])
		if !ok {
			return 0, false
		}
		a = a<<4 | digit
	}
	return a, true
}

// hexValue is what a digit counts: strconv would let great letters through.
func hexValue(c byte) (api.F, bool) {
	switch {
	case '0' <= c && c <= '9':
		return api.F(c - '0'), true
	case 'a' <= c && c <= 'f':
		return api.F(c-'a') + 10, true
	}
	return 0, false
}
