package spec

import (
	"firewall/api"
	"firewall/cpu"
	"firewall/helpers"
	"firewall/machine"
)

// store is one that waits: where it lies, and the bytes that stood there ahead of it.
type store struct {
	addr uint64
	old  string
}

// ends tells of instructions that end guesses, and behind which no store waits.
func ends(x api.X) bool {
	return x.Kind == api.XFence || x.Kind == api.XCall || x.Kind == api.XRet
}

// waiting is the stores that wait behind an instruction that is about to be done.
func waiting(w *helpers.World, x api.X, s cpu.State, waits []store) []store {
	if ends(x) {
		return nil
	}
	if x.Kind != api.XStore {
		return waits
	}
	addr, n := machine.Touch(x, s)
	old, e := w.Memory().Text(addr, n)
	if e != api.OK {
		return waits
	}
	return append(waits, store{addr, old})
}

// stale is the number that a load would have without the last n stores that wait; false: its own number is not there.
func stale(w *helpers.World, x api.X, s cpu.State, waits []store, n int) (uint64, bool) {
	addr, size := machine.Touch(x, s)
	v, e := w.Memory().Read(addr, size)
	if e != api.OK {
		return 0, false
	}
	for k := range n {
		v = undone(v, addr, size, waits[len(waits)-1-k])
	}
	return v, true
}

// undone is the number of the bytes at an address as it was ahead of a store.
func undone(v, addr uint64, size int, s store) uint64 {
	for i := range len(s.old) {
		if at := s.addr + uint64(i) - addr; at < uint64(size) {
			v = v&^(0xff<<(8*at)) | uint64(s.old[i])<<(8*at)
		}
	}
	return v
}
