package steps

import (
	"firewall/api"
	"firewall/frames"
	"firewall/kinds"
	"firewall/progs"
	"firewall/scalars"
)

// turned tells which condition says the same of two the other way about.
func turned() map[uint8]uint8 {
	return map[uint8]uint8{
		api.JmpEq: api.JmpEq, api.JmpNe: api.JmpNe, api.JmpSet: api.JmpSet,
		api.JmpGt: api.JmpLt, api.JmpLt: api.JmpGt,
		api.JmpGe: api.JmpLe, api.JmpLe: api.JmpGe,
		api.JmpSgt: api.JmpSlt, api.JmpSlt: api.JmpSgt,
		api.JmpSge: api.JmpSle, api.JmpSle: api.JmpSge,
	}
}

// jump does conditions, calls and exits.
func (s *step) jump() ([]Way, api.Errno) {
	op := s.in.Op & opBits
	switch op {
	case api.JmpAlways:
		return s.goOn(api.OK)
	case api.JmpCall:
		return s.goOn(s.call(int(s.in.Imm)))
	case api.JmpExit:
		return nil, s.exit()
	}
	a, e := s.read(s.in.Dst)
	if e != api.OK {
		return nil, e
	}
	b, e := s.source(s.in.Op&api.FromReg != 0)
	if e != api.OK {
		return nil, e
	}
	wide := s.in.Op&classBits == api.ClJmp
	switch {
	case !kinds.Points(a) && !kinds.Points(b):
		return s.compareNumbers(op, wide, a.N, b.N), api.OK
	case !wide:
		return nil, api.ErrLeak
	}
	return s.compareAddresses(op, a, b)
}

func (s *step) exit() api.Errno {
	v, e := s.read(0)
	switch {
	case e != api.OK:
		return e
	case kinds.Points(v):
		return api.ErrLeak
	}
	return api.OK
}

// place is where a condition leads that holds, or does not.
func (s *step) place(holds bool) int {
	next := progs.Next(s.l, s.pc)
	if holds {
		return next[1]
	}
	return next[0]
}

// compareNumbers is the ways behind a comparison of numbers, with what is left of both.
func (s *step) compareNumbers(op uint8, wide bool, a, b scalars.N) []Way {
	var ways []Way
	for _, holds := range [2]bool{false, true} {
		x, y, ok := scalars.Assume(op, wide, holds, a, b)
		if !ok {
			continue
		}
		ways = append(ways, Way{s.place(holds), s.f})
		r := &ways[len(ways)-1].F.R
		r[s.in.Dst].N = x
		if s.in.Op&api.FromReg != 0 {
			r[s.in.Src].N = y
		}
	}
	return ways
}

// compareAddresses is the ways behind a comparison of 64 bits, one of whose sides is an address.
func (s *step) compareAddresses(op uint8, a, b kinds.V) ([]Way, api.Errno) {
	switch other := turned()[op]; {
	case a.Kind == kinds.Packet && b.Kind == kinds.End:
		return s.comparePacket(op, a), api.OK
	case a.Kind == kinds.End && b.Kind == kinds.Packet:
		return s.comparePacket(other, b), api.OK
	case isLookups(a) && isZero(b):
		return s.compareFound(op, a), api.OK
	case isLookups(b) && isZero(a):
		return s.compareFound(other, b), api.OK
	}
	return nil, api.ErrType
}

// isLookups tells of what a lookup told.
func isLookups(v kinds.V) bool { return v.Kind == kinds.Maybe || v.Kind == kinds.Value }

func isZero(v kinds.V) bool {
	c, ok := scalars.One(v.N)
	return v.Kind == kinds.Num && ok && c == 0
}

// comparePacket is the ways behind a comparison of the packet's address with its end.
func (s *step) comparePacket(op uint8, p kinds.V) []Way {
	var ways []Way
	for _, holds := range [2]bool{false, true} {
		f := s.f
		if many, ok := there(op, holds, p.Off); ok {
			f = frames.Sure(f, p.ID, many)
		}
		ways = append(ways, Way{s.place(holds), f})
	}
	return ways
}

// there is how many bytes are there, from where an ID points to on, when the address off behind it was compared with the end; false: that is not known.
func there(op uint8, holds bool, off int) (int, bool) {
	switch op {
	case api.JmpGt, api.JmpNe:
		return off, !holds
	case api.JmpLe, api.JmpEq:
		return off, holds
	case api.JmpGe:
		return off + 1, !holds
	case api.JmpLt:
		return off + 1, holds
	}
	return 0, false
}

// compareFound is the ways behind a comparison of what a lookup told with 0; what is known to be an address is never 0.
func (s *step) compareFound(op uint8, v kinds.V) []Way {
	var ways []Way
	tells := op == api.JmpEq || op == api.JmpNe
	for _, holds := range [2]bool{false, true} {
		is := holds == (op == api.JmpNe)
		f := s.f
		switch {
		case tells && v.Kind == kinds.Maybe:
			f = frames.Found(f, v.ID, is)
		case tells && !is:
			continue
		}
		ways = append(ways, Way{s.place(holds), f})
	}
	return ways
}
