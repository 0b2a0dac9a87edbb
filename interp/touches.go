package interp

import (
	"firewall/api"
	"firewall/helpers"
	"firewall/insns"
)

// asked is the address of bytes that are asked for, if they are the world's own.
func (s *run) asked(from value, off int16, n int) (uint64, api.Errno) {
	addr := from.v + uint64(int64(off))
	if !from.tag || !s.w.Own(addr, n) {
		return 0, api.ErrFault
	}
	return addr, api.OK
}

func onStack(addr uint64) bool { return addr >= api.StackBase && addr < stackTop }

// inAddresses tells whether bytes of the world's own, from there on, are of the context's addresses.
func inAddresses(addr uint64) bool { return addr >= api.CtxBase && addr < addrsEnd }

// wholePlace tells whether bytes are a place of the stack, or an address of the context.
func wholePlace(addr uint64, n int) bool { return n == place && addr%place == 0 }

// readable tells whether bytes of the world's own may be read, and whether they are an address.
func (s *run) readable(addr uint64, n int) (tag bool, e api.Errno) {
	if inAddresses(addr) {
		tag = true
	} else if onStack(addr) {
		from := int(addr - api.StackBase)
		for at := from; at < from+n; at++ {
			if !s.written[at] {
				return false, api.ErrUninit
			}
			tag = tag || s.tags[at/place]
		}
	}
	if tag && !wholePlace(addr, n) {
		return false, api.ErrLeak
	}
	return tag, api.OK
}

func (s *run) load(in api.Insn) api.Errno {
	from, e := s.read(in.Src)
	if e != api.OK {
		return e
	}
	n := insns.Size(in.Op)
	addr, e := s.asked(from, in.Off, n)
	if e != api.OK {
		return e
	}
	tag, e := s.readable(addr, n)
	if e != api.OK {
		return e
	}
	v, e := s.w.Memory().Read(addr, n)
	if e != api.OK {
		return e
	}
	s.r[in.Dst] = value{has: true, tag: tag, v: v}
	s.pc++
	return api.OK
}

// store does stores of both classes, and barriers, which are of one of them.
func (s *run) store(in api.Insn) api.Errno {
	if in.Op == api.Nospec {
		s.pc++
		return api.OK
	}
	to, e := s.read(in.Dst)
	if e != api.OK {
		return e
	}
	v, e := s.source(in, in.Op&classBits == api.ClStx)
	if e != api.OK {
		return e
	}
	n := insns.Size(in.Op)
	addr, e := s.asked(to, in.Off, n)
	switch {
	case e != api.OK:
		return e
	case inAddresses(addr):
		return api.ErrRight
	case v.tag && !(onStack(addr) && wholePlace(addr, n)):
		return api.ErrLeak
	}
	if e := s.w.Memory().Write(addr, n, v.v); e != api.OK {
		return e
	}
	s.note(addr, n, v.tag)
	s.pc++
	return api.OK
}

// note keeps that bytes were written, and whether they are an address.
func (s *run) note(addr uint64, n int, tag bool) {
	if !onStack(addr) {
		return
	}
	from := int(addr - api.StackBase)
	for at := from; at < from+n; at++ {
		s.written[at] = true
		s.tags[at/place] = tag
	}
}

// call calls a helper.
func (s *run) call(id int) api.Errno {
	takes := helpers.Args(id)
	for r := 1; r <= takes; r++ {
		if _, e := s.read(uint8(r)); e != api.OK {
			return e
		}
	}
	if id != api.HeRandom {
		if e := s.mapArgs(id); e != api.OK {
			return e
		}
	}
	var a [5]uint64
	for i := range a {
		a[i] = s.r[i+1].v
	}
	answer, e := s.w.Call(id, a)
	if e != api.OK {
		return e
	}
	s.r[0] = value{has: true, tag: id == api.HeLookup && answer != 0, v: answer}
	for r := 1; r <= len(a); r++ {
		s.r[r] = value{}
	}
	s.pc++
	return api.OK
}

// mapArgs tells what is wrong with the arguments of a call that asks a map.
func (s *run) mapArgs(id int) api.Errno {
	i := s.r[1].v - api.HandleBase
	if !s.r[1].tag || i >= uint64(s.w.Maps().Len()) {
		return api.ErrArg
	}
	m := s.w.Layout().Maps[i]
	if e := s.plain(s.r[2], m.Key); e != api.OK {
		return e
	}
	if id != api.HeUpdate {
		return api.OK
	}
	if e := s.plain(s.r[3], m.Value); e != api.OK {
		return e
	}
	if s.r[4].tag {
		return api.ErrLeak
	}
	return api.OK
}

// plain tells whether bytes may be read, and are no address.
func (s *run) plain(from value, n int) api.Errno {
	addr, e := s.asked(from, 0, n)
	if e != api.OK {
		return e
	}
	tag, e := s.readable(addr, n)
	if e == api.OK && tag {
		return api.ErrLeak
	}
	return e
}
