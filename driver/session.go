package driver

import (
	"lathe/api"
	"lathe/vm"
)

// Session trains with bytecode.
type Session struct {
	machine *vm.Machine
	print   uint64 // the bytecode's fingerprint, which tells whose snapshots it takes
	count   int
}

// Open begins a session.
func Open(bytecode string) (*Session, api.Errno) {
	m, e := vm.New(bytecode)
	if e != api.OK {
		return nil, e
	}
	return &Session{machine: m, print: long(bytecode, len(bytecode)-longBytes)}, api.OK
}

// Step is a step.
func (s *Session) Step(grads, params [][]api.F) ([][]api.F, api.Errno) {
	updates, e := s.machine.Step(grads, params)
	if e != api.OK {
		return nil, e
	}
	s.count = min(s.count, api.MaxCount-1) + 1 // so that it never is more than an int of 32 bits holds
	return updates, api.OK
}

// Count is how many steps there have been.
func (s *Session) Count() int { return s.count }
