package asm

import (
	"strconv"
	"strings"

	"lathe/api"
	"lathe/bits"
)

// words are those of a line, taken one behind the other. Whoever takes them goes on to the line's end, and asks then whether they are
// right.
type words struct {
	rest    string
	isOver  bool // the last one was taken
	isWrong bool // one of them can't stand there
}

// next is the next word; if there is none, the empty one, which can't stand anywhere.
func (w *words) next() string {
	word, rest, isMore := strings.Cut(w.rest, " ")
	w.rest, w.isOver = rest, !isMore
	return word
}

// hold says what must be so, if the words are right.
func (w *words) hold(isSo bool) {
	w.isWrong = w.isWrong || !isSo
}

// areRight tells whether all words were taken, and each could stand there.
func (w *words) areRight() bool { return w.isOver && !w.isWrong }

// meaning is what the next word means.
func (w *words) meaning(of map[string]int) int {
	n, isFound := of[w.next()]
	w.hold(isFound)
	return n
}

// number is the next word as a number. It has one text alone, so that text must be the word.
func (w *words) number() int { return w.numberOf(w.next()) }

func (w *words) numberOf(text string) int {
	n, err := strconv.Atoi(text)
	w.hold(err == nil && 0 <= n && n <= api.MaxCount && number(n) == text)
	return n
}

// register is the next word as a register's number.
func (w *words) register() int {
	text, isRegister := strings.CutPrefix(w.next(), "r")
	w.hold(isRegister)
	return w.numberOf(text)
}

// pattern is the next word as a pattern.
func (w *words) pattern() api.F {
	a, isOne := bits.Read(w.next())
	w.hold(isOne)
	return a
}
