package decimal

import "strings"

// A decimal is what a text says: 0.digits * 10^point, digits without noughts at its ends (of a nought there are none).
type decimal struct {
	minus  bool
	digits string
	point  int
}

// read takes a text apart, if it is a decimal.
func read(s string) (decimal, bool) {
	rest, minus := strings.CutPrefix(s, "-")
	whole, rest := cutDigits(rest)
	fraction, rest, ok := cutFraction(rest)
	if whole == "" || !ok {
		return decimal{}, false
	}
	exponent, ok := readExponent(rest)
	if !ok {
		return decimal{}, false
	}
	all := whole + fraction
	digits := strings.TrimLeft(all, "0")
	point := len(whole) - (len(all) - len(digits)) + exponent
	return decimal{minus, strings.TrimRight(digits, "0"), point}, true
}

// cutDigits cuts off the digits at the beginning.
func cutDigits(s string) (string, string) {
	n := 0
	for n < len(s) && '0' <= s[n] && s[n] <= '9' {
		n++
	}
	return s[:n], s[n:]
}

// cutFraction cuts off a point with its digits, if there is a point: false, if it has none.
func cutFraction(s string) (string, string, bool) {
	rest, ok := strings.CutPrefix(s, ".")
	if !ok {
		return "", s, true
	}
	digits, rest := cutDigits(rest)
	return digits, rest, digits != ""
}

// readExponent reads what stands behind the digits: nothing, or an exponent.
func readExponent(s string) (int, bool) {
	if s == "" {
		return 0, true
	}
	if s[0] != 'e' && s[0] != 'E' {
		return 0, false
	}
	rest, minus := strings.CutPrefix(s[1:], "-")
	if !minus {
		rest = strings.TrimPrefix(rest, "+")
	}
	digits, rest := cutDigits(rest)
	if digits == "" || rest != "" {
		return 0, false
	}
	if minus {
		return -count(digits), true
	}
	return count(digits), true
}

// count is what digits count, at most so much that no point and no noughts of a text of MaxSource bytes bring it back.
func count(digits string) int {
	const enough = 1 << 20
	n := 0
	for i := range len(digits) {
		n = min(10*n+int(digits[i]-'0'), enough)
	}
	return n
}
