package helpers

import "firewall/api"

// flagsRefused is what an update with flags answers: -22.
const flagsRefused = 1<<64 - 22

// args is how many arguments each helper has, by its number; below 0: there is none of that number.
var args = [8]int8{-1, 2, 4, 2, -1, -1, -1, 0}

// Args is how many arguments a helper has; -1: there is no such helper.
func Args(id int) int {
	if id < 0 || id >= len(args) {
		return -1
	}
	return int(args[id])
}

// Call calls a helper.
func (w *World) Call(id int, a [5]uint64) (uint64, api.Errno) {
	switch {
	case w.none():
		return 0, api.ErrNil
	case Args(id) < 0:
		return 0, api.ErrHelper
	case id == api.HeRandom:
		return w.draw(), api.OK
	}
	i := a[0] - api.HandleBase
	if i >= uint64(w.maps.Len()) {
		return 0, api.ErrArg
	}
	return w.callMap(id, int(i), a)
}

// draw is the next draw; 0, if none is left.
func (w *World) draw() uint64 {
	if len(w.draws) == 0 {
		return 0
	}
	d := w.draws[0]
	w.draws = w.draws[1:]
	return d
}

// callMap calls a helper that asks the map i.
func (w *World) callMap(id, i int, a [5]uint64) (uint64, api.Errno) {
	key, e := w.memory.Text(a[1], w.layout.Maps[i].Key)
	if e != api.OK {
		return 0, api.ErrFault
	}
	switch id {
	case api.HeLookup:
		return w.maps.Lookup(i, key), api.OK
	case api.HeDelete:
		return uint64(w.maps.Delete(i, key)), api.OK
	}
	value, e := w.memory.Text(a[2], w.layout.Maps[i].Value)
	switch {
	case e != api.OK:
		return 0, api.ErrFault
	case a[3] != 0:
		return flagsRefused, api.OK
	}
	return uint64(w.maps.Update(i, key, value)), api.OK
}
