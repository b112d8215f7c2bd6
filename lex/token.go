package lex

import (
	"strings"

	"lathe/api"
)

// token is the kind of the token whose first byte stands at a place, and the place behind it; or the error of one that can't be.
func token(text string, at int) (kind, end int, e api.Errno) {
	switch first := text[at]; {
	case isLetter(first):
		goto name
	case isDigit(first):
		goto digits
	case first == '"':
		goto quote
	case strings.IndexByte(marks, first) >= 0:
		goto mark
	}
	return 0, 0, api.ErrByte

name:
	end = past(text, at, isInName)
	return fit(api.TokenName, end, end-at)

digits:
	return numeral(text, at)

quote:
	end = past(text, at+1, isInText)
	if peek(text, end) != '"' {
		return 0, 0, api.ErrText
	}
	return fit(api.TokenText, end+1, end-at-1)

mark:
	return api.TokenOpen + strings.IndexByte(marks, text[at]), at + 1, api.OK
}

// numeral is token at a place where a digit stands.
func numeral(text string, at int) (kind, end int, e api.Errno) {
	kind = api.TokenWhole
	end = past(text, at, isDigit)
	switch next := peek(text, end); {
	case next == '.':
		goto point
	case isExponent(next):
		goto exponent
	}
	goto behind

point:
	kind = api.TokenNumber
	if !isDigit(peek(text, end+1)) {
		goto fault
	}
	end = past(text, end+1, isDigit)
	if isExponent(peek(text, end)) {
		goto exponent
	}
	goto behind

exponent:
	kind = api.TokenNumber
	end++
	if isSign(peek(text, end)) {
		end++
	}
	if !isDigit(peek(text, end)) {
		goto fault
	}
	end = past(text, end, isDigit)
	goto behind

behind:
	if next := peek(text, end); isLetter(next) || next == '.' {
		goto fault
	}
	return fit(kind, end, end-at)

fault:
	return 0, 0, api.ErrNumber
}

// fit is a token that ends there, unless too many bytes of it count.
func fit(kind, end, counted int) (int, int, api.Errno) {
	if counted > api.MaxName {
		return 0, 0, api.ErrLong
	}
	return kind, end, api.OK
}

// peek is the byte at a place; behind the end 0, which no token holds.
func peek(text string, at int) byte {
	if at >= len(text) {
		return 0
	}
	return text[at]
}

// past is the first place from at on whose byte does not belong.
func past(text string, at int, belongs func(byte) bool) int {
	for at < len(text) && belongs(text[at]) {
		at++
	}
	return at
}

func isBlank(c byte) bool { return c == '\t' || c == '\n' || c == '\r' || c == ' ' }

func isRemark(c byte) bool { return c != '\n' }

func isLetter(c byte) bool { return 'a' <= c && c <= 'z' || c == '_' }

func isDigit(c byte) bool { return '0' <= c && c <= '9' }

func isInName(c byte) bool { return isLetter(c) || isDigit(c) }

func isExponent(c byte) bool { return c == 'e' || c == 'E' }

func isSign(c byte) bool { return c == '+' || c == '-' }

func isInText(c byte) bool { return ' ' <= c && c <= '~' && c != '"' }
