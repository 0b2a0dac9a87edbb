package interp

import (
	"firewall/alu"
	"firewall/api"
	"firewall/conds"
)

// arithmetic does what is of 32 bits, and of 64.
func (s *run) arithmetic(in api.Insn) api.Errno {
	op, wide := in.Op&opBits, in.Op&classBits == api.ClAlu64
	var a value
	if op != api.OpMov {
		var e api.Errno
		if a, e = s.read(in.Dst); e != api.OK {
			return e
		}
	}
	b, e := s.source(in, in.Op&api.FromReg != 0)
	if e != api.OK {
		return e
	}
	tag, e := tagOf(op, wide, a.tag, b.tag)
	if e != api.OK {
		return e
	}
	s.r[in.Dst] = value{has: true, tag: tag, v: alu.Do(op, wide, a.v, b.v)}
	s.pc++
	return api.OK
}

// tagOf tells whether what comes of two values is an address.
func tagOf(op uint8, wide, a, b bool) (bool, api.Errno) {
	switch {
	case !a && !b:
		return false, api.OK
	case !wide:
		return false, api.ErrLeak
	case op == api.OpMov:
		return b, api.OK
	case op == api.OpAdd && a != b:
		return true, api.OK
	case op == api.OpSub && a:
		return !b, api.OK
	}
	return false, api.ErrLeak
}

// jump does conditions, calls and exits.
func (s *run) jump(in api.Insn) api.Errno {
	op := in.Op & opBits
	switch op {
	case api.JmpExit:
		return s.exit()
	case api.JmpCall:
		return s.call(int(in.Imm))
	case api.JmpAlways:
		s.pc += 1 + int(in.Off)
		return api.OK
	}
	a, b, e := s.both(in)
	if e != api.OK {
		return e
	}
	s.pc++
	if conds.Holds(op, in.Op&classBits == api.ClJmp, a.v, b.v) {
		s.pc += int(in.Off)
	}
	return api.OK
}

func (s *run) exit() api.Errno {
	a, e := s.read(0)
	switch {
	case e != api.OK:
		return e
	case a.tag:
		return api.ErrLeak
	}
	s.ended = true
	return api.OK
}
