package steps

import (
	"firewall/api"
	"firewall/frames"
	"firewall/kinds"
	"firewall/scalars"
)

// call calls a helper.
func (s *step) call(id int) api.Errno {
	answer := kinds.Number(scalars.Any())
	if id != api.HeRandom {
		v, e := s.callMap(id)
		if e != api.OK {
			return e
		}
		answer = v
	}
	s.f = frames.Drop(s.f, 1, 2, 3, 4, 5)
	s.f.R[0] = answer
	return api.OK
}

// callMap is what is known of the answer of a call that asks a map.
func (s *step) callMap(id int) (kinds.V, api.Errno) {
	handle, e := s.read(1)
	if e != api.OK {
		return kinds.V{}, e
	}
	m, ok := s.mapOf(handle)
	if handle.Kind != kinds.Handle || !ok {
		return kinds.V{}, api.ErrType
	}
	if e := frames.Plain(s.f, s.m, s.f.R[2], m.Key); e != api.OK {
		return kinds.V{}, e
	}
	switch id {
	case api.HeLookup:
		var answer kinds.V
		s.f, answer.ID = frames.Fresh(s.f)
		answer.Kind, answer.Map = kinds.Maybe, handle.Map
		s.note.Map = handle.Map + 1
		return answer, api.OK
	case api.HeUpdate:
		e = s.updatable(m)
	}
	if e != api.OK {
		return kinds.V{}, e
	}
	return kinds.Number(scalars.Any()), api.OK
}

// updatable tells whether there is a value, and flags, for an update.
func (s *step) updatable(m api.Map) api.Errno {
	if e := frames.Plain(s.f, s.m, s.f.R[3], m.Value); e != api.OK {
		return e
	}
	flags, e := s.read(4)
	if e == api.OK && kinds.Points(flags) {
		return api.ErrLeak
	}
	return e
}
