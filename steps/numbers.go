package steps

import (
	"firewall/api"
	"firewall/frames"
	"firewall/kinds"
	"firewall/scalars"
)

// arithmetic lays what comes of Dst and the value into Dst.
func (s *step) arithmetic() api.Errno {
	op, wide := s.in.Op&opBits, s.in.Op&classBits == api.ClAlu64
	var a kinds.V
	if op != api.OpMov {
		var e api.Errno
		if a, e = s.read(s.in.Dst); e != api.OK {
			return e
		}
	}
	b, e := s.source(s.in.Op&api.FromReg != 0)
	if e != api.OK {
		return e
	}
	r, e := s.combined(op, wide, a, b)
	if e != api.OK {
		return e
	}
	s.f.R[s.in.Dst] = r
	return api.OK
}

func (s *step) combined(op uint8, wide bool, a, b kinds.V) (kinds.V, api.Errno) {
	switch {
	case !kinds.Points(a) && !kinds.Points(b):
		return kinds.Number(scalars.Do(op, wide, a.N, b.N)), api.OK
	case !wide:
		return kinds.V{}, api.ErrLeak
	case op == api.OpMov:
		return b, api.OK
	case op == api.OpAdd && !kinds.Points(b):
		return s.moved(a, b.N)
	case op == api.OpAdd && !kinds.Points(a):
		return s.moved(b, a.N)
	case op == api.OpSub && !kinds.Points(b):
		return s.movedBack(a, b.N)
	}
	return kinds.V{}, api.ErrLeak
}

// moved is an address, and a number behind it.
func (s *step) moved(v kinds.V, n scalars.N) (kinds.V, api.Errno) {
	f, id := frames.Fresh(s.f)
	r, ok := kinds.Add(v, n, id)
	if !ok {
		return kinds.V{}, api.ErrType
	}
	if r.ID == id {
		s.f = f
	}
	return r, api.OK
}

// movedBack is an address ahead of another one by a number that has to be known.
func (s *step) movedBack(v kinds.V, n scalars.N) (kinds.V, api.Errno) {
	c, ok := scalars.One(n)
	if !ok {
		return kinds.V{}, api.ErrType
	}
	return s.moved(v, scalars.Const(-c))
}
