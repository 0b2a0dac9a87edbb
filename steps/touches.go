package steps

import (
	"firewall/api"
	"firewall/insns"
	"firewall/kinds"
	"firewall/scalars"
	"firewall/slots"
)

const (
	word     = 8
	startAt  = 0  // where the context has the packet's first byte
	endAt    = 8  // where it has its end
	numberAt = 16 // where it has numbers alone
)

// load lays what is known of bytes into Dst.
func (s *step) load() api.Errno {
	from, e := s.read(s.in.Src)
	if e != api.OK {
		return e
	}
	v, e := s.loaded(from, insns.Size(s.in.Op))
	if e != api.OK {
		return e
	}
	s.f.R[s.in.Dst] = v
	return api.OK
}

func (s *step) loaded(from kinds.V, n int) (kinds.V, api.Errno) {
	off := from.Off + int(s.in.Off)
	switch from.Kind {
	case kinds.Stack:
		return slots.Load(s.f.S, off, n)
	case kinds.Ctx:
		switch {
		case n == word && off == startAt:
			return kinds.V{Kind: kinds.Packet}, api.OK
		case n == word && off == endAt:
			return kinds.V{Kind: kinds.End}, api.OK
		case off < numberAt:
			return kinds.V{}, api.ErrLeak
		}
	case kinds.Value, kinds.Packet:
	default:
		return kinds.V{}, api.ErrType
	}
	if !s.reach(from, n) {
		return kinds.V{}, api.ErrBound
	}
	return kinds.Number(scalars.Bytes(n)), api.OK
}

// store does stores of both classes.
func (s *step) store() api.Errno {
	to, e := s.read(s.in.Dst)
	if e != api.OK {
		return e
	}
	v, e := s.source(s.in.Op&classBits == api.ClStx)
	if e != api.OK {
		return e
	}
	n := insns.Size(s.in.Op)
	if to.Kind == kinds.Stack {
		s.note.Stack = true
		s.f.S, e = slots.Store(s.f.S, to.Off+int(s.in.Off), n, v)
		return e
	}
	return s.storable(to, n, v)
}

// storable tells whether a value may be stored at an address that is not the stack's.
func (s *step) storable(to kinds.V, n int, v kinds.V) api.Errno {
	switch to.Kind {
	case kinds.Ctx:
		if to.Off+int(s.in.Off) < numberAt {
			return api.ErrRight
		}
	case kinds.Value, kinds.Packet:
	default:
		return api.ErrType
	}
	switch {
	case kinds.Points(v):
		return api.ErrLeak
	case !s.reach(to, n):
		return api.ErrBound
	}
	return api.OK
}
