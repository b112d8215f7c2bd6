package driver

import (
	"strings"

	"lathe/api"
	"lathe/code"
)

// mark is how a snapshot begins.
const mark = "LATHS\x01"

// The bytes of a number, and of a fingerprint.
const (
	wordBytes = 4
	longBytes = 8
)

// Where the parts of a snapshot begin, and how many bytes it has at least: those of one whose state has no numbers.
const (
	printAt = len(mark)
	countAt = printAt + longBytes
	sizeAt  = countAt + wordBytes
	stateAt = sizeAt + wordBytes
	fewest  = stateAt + longBytes
)

// Snapshot is all that is kept, as bytes.
func (s *Session) Snapshot() string {
	state := s.machine.State()
	b := make([]byte, 0, fewest+wordBytes*len(state))
	b = append(b, mark...)
	b = appendLong(b, s.print)
	b = appendWord(b, uint32(s.count))
	b = appendWord(b, uint32(len(state)))
	for _, x := range state {
		b = appendWord(b, x)
	}
	return string(appendLong(b, code.Print(string(b))))
}

// Restore puts a snapshot's state in the place of the present one.
func (s *Session) Restore(snapshot string) api.Errno {
	if e := whole(snapshot); e != api.OK {
		return e
	}
	if long(snapshot, printAt) != s.print {
		return api.ErrPrint
	}
	count := word(snapshot, countAt)
	if count > api.MaxCount || s.machine.Set(stateOf(snapshot)) != api.OK {
		return api.ErrForm
	}
	s.count = int(count)
	return api.OK
}

// whole is the error of a snapshot that is none, or that is damaged, whosever it is.
func whole(snapshot string) api.Errno {
	if len(snapshot) < fewest {
		return api.ErrCut
	}
	if !strings.HasPrefix(snapshot, mark) {
		return api.ErrMark
	}
	// The number that stands there may be any: what it asks for can be more than an int holds.
	asked := uint64(fewest) + wordBytes*uint64(word(snapshot, sizeAt))
	if uint64(len(snapshot)) < asked {
		return api.ErrCut
	}
	if uint64(len(snapshot)) > asked {
		return api.ErrBehind
	}
	sumAt := len(snapshot) - longBytes
	if long(snapshot, sumAt) != code.Print(snapshot[:sumAt]) {
		return api.ErrSum
	}
	return api.OK
}

// stateOf is the state that a snapshot holds which is whole.
func stateOf(snapshot string) []uint32 {
	state := make([]uint32, word(snapshot, sizeAt))
	for n := range state {
		state[n] = word(snapshot, stateAt+n*wordBytes)
	}
	return state
}

// word is the number whose lowest byte stands at a place.
func word(b string, at int) uint32 {
	x := uint32(0)
	for n := range wordBytes {
		x |= uint32(b[at+n]) << (8 * n)
	}
	return x
}

// long is the fingerprint whose lowest byte stands at a place.
func long(b string, at int) uint64 {
	return uint64(word(b, at)) | uint64(word(b, at+wordBytes))<<(8*wordBytes)
}

// appendWord puts a number to bytes, the lowest byte first.
func appendWord(b []byte, x uint32) []byte {
	for n := range wordBytes {
		b = append(b, byte(x>>(8*n)))
	}
	return b
}

// appendLong puts a fingerprint to bytes, the lowest byte first.
func appendLong(b []byte, x uint64) []byte {
	return appendWord(appendWord(b, uint32(x)), uint32(x>>(8*wordBytes)))
}
