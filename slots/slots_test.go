package slots_test

import (
	"testing"

	"firewall/api"
	"firewall/kinds"
	"firewall/scalars"
	"firewall/slots"
)

type S = slots.S

const (
	big   = 1<<63 - 1
	small = -1 << 63
)

var (
	address = kinds.V{Kind: kinds.Stack, Off: -16}
	seven   = kinds.Number(scalars.Const(7))
)

// stored is a stack behind a store that may be.
func stored(t *testing.T, s S, off, n int, v kinds.V) S {
	t.Helper()
	r, e := slots.Store(s, off, n, v)
	if e != api.OK {
		t.Fatalf("Store %d, %d: %v", off, n, e)
	}
	return r
}

func refused(t *testing.T, s S, off, n int, v kinds.V, want api.Errno) {
	t.Helper()
	if r, e := slots.Store(s, off, n, v); e != want || r != (S{}) {
		t.Errorf("Store %d, %d, %v: %v, want %v", off, n, v, e, want)
	}
}

func loads(t *testing.T, s S, off, n int, v kinds.V, want api.Errno) {
	t.Helper()
	if r, e := slots.Load(s, off, n); r != v || e != want {
		t.Errorf("Load %d, %d: %v, %v, want %v, %v", off, n, r, e, v, want)
	}
}

func TestExamples(t *testing.T) {
	s := stored(t, S{}, -8, 8, address)
	loads(t, s, -8, 8, address, api.OK)
	loads(t, s, -8, 4, kinds.V{}, api.ErrLeak)
	refused(t, s, -6, 1, seven, api.ErrLeak)
	s = stored(t, S{}, -4, 4, seven)
	loads(t, s, -4, 2, kinds.Number(scalars.Bytes(2)), api.OK)
	loads(t, s, -8, 8, kinds.V{}, api.ErrUninit)
	if e := slots.Plain(s, -4, 4); e != api.OK {
		t.Error(e)
	}
	refused(t, S{}, 0, 1, seven, api.ErrBound)
	refused(t, S{}, -512, 8, kinds.V{}, api.ErrUninit)
}

func TestBounds(t *testing.T) {
	var full S
	for k := range full {
		full[k] = slots.Place{Bytes: 255, V: seven}
	}
	for _, x := range []struct {
		off, n int
		word   bool
		plain  bool
	}{
		{-512, 1, true, true}, {-513, 1, false, false}, {-1, 1, true, true}, {0, 1, false, false}, {-1, 2, false, false}, {-8, 8, true, true}, {-7, 8, false, false}, {-512, 8, true, true}, {-513, 8, false, false}, {-4, 4, true, true}, {-3, 4, false, false},
		{-9, 8, true, true}, {-8, 3, false, true}, {-8, 0, false, false}, {-8, -1, false, false}, {-16, 16, false, true}, {-512, 512, false, true}, {-512, 513, false, false}, {-513, 513, false, false}, {-64, 65, false, false},
		{big, 8, false, false}, {small, 8, false, false}, {-8, big, false, false}, {-8, small, false, false}, {big, big, false, false}, {small, small, false, false}, {small, big, false, false},
	} {
		want := func(ok bool) api.Errno {
			if ok {
				return api.OK
			}
			return api.ErrBound
		}
		if _, e := slots.Store(full, x.off, x.n, seven); e != want(x.word) {
			t.Errorf("Store %d, %d: %v", x.off, x.n, e)
		}
		if _, e := slots.Load(full, x.off, x.n); e != want(x.word) {
			t.Errorf("Load %d, %d: %v", x.off, x.n, e)
		}
		if e := slots.Plain(full, x.off, x.n); e != want(x.plain) {
			t.Errorf("Plain %d, %d: %v", x.off, x.n, e)
		}
	}
	refused(t, S{}, 0, 8, kinds.V{}, api.ErrBound)
}

func TestStore(t *testing.T) {
	s := stored(t, S{}, -24, 8, seven)
	if s[61] != (slots.Place{Bytes: 255, V: seven}) {
		t.Error(s[61])
	}
	for k := range s {
		if k != 61 && s[k] != (slots.Place{}) {
			t.Errorf("the place %d has something", k)
		}
	}
	s = stored(t, s, -20, 1, seven)
	if s[61] != (slots.Place{Bytes: 255}) {
		t.Error("a part of a place is stored:", s[61])
	}
	s = stored(t, S{}, -20, 8, seven)
	if s[61] != (slots.Place{Bytes: 0xf0}) || s[62] != (slots.Place{Bytes: 0x0f}) {
		t.Error("8 bytes of two places:", s[61], s[62])
	}
	s = stored(t, S{}, -512, 2, seven)
	s = stored(t, s, -507, 1, seven)
	if s[0] != (slots.Place{Bytes: 0x23}) {
		t.Error(s[0])
	}
	for kind := kinds.Ctx; kind <= kinds.End; kind++ {
		v := kinds.V{Kind: kind}
		for _, n := range []int{1, 2, 4} {
			refused(t, S{}, -8, n, v, api.ErrLeak)
		}
		refused(t, S{}, -9, 8, v, api.ErrLeak)
		s := stored(t, S{}, -8, 8, v)
		for _, n := range []int{1, 2, 4} {
			refused(t, s, -8, n, seven, api.ErrLeak)
		}
		refused(t, s, -12, 8, seven, api.ErrLeak)
		if s = stored(t, s, -8, 8, seven); s[63].V != seven {
			t.Error(s[63])
		}
	}
	refused(t, S{}, -9, 8, kinds.V{}, api.ErrUninit)
	refused(t, stored(t, S{}, -8, 8, address), -8, 1, kinds.V{}, api.ErrUninit)
}

func TestPlainAndLoad(t *testing.T) {
	s := stored(t, stored(t, stored(t, S{}, -8, 8, seven), -16, 8, address), -24, 4, seven)
	s = stored(t, s, -32, 2, seven)
	for _, x := range []struct {
		off, n int
		e      api.Errno
	}{
		{-8, 8, api.OK}, {-8, 1, api.OK}, {-1, 1, api.OK}, {-16, 1, api.ErrLeak}, {-9, 1, api.ErrLeak}, {-9, 2, api.ErrLeak}, {-16, 16, api.ErrLeak}, {-24, 4, api.OK}, {-24, 5, api.ErrUninit}, {-20, 5, api.ErrUninit}, {-17, 2, api.ErrUninit}, {-17, 1, api.ErrUninit}, {-32, 2, api.OK}, {-32, 3, api.ErrUninit}, {-31, 1, api.OK}, {-33, 1, api.ErrUninit}, {-512, 512, api.ErrUninit}, {-18, 18, api.ErrUninit},
	} {
		if e := slots.Plain(s, x.off, x.n); e != x.e {
			t.Errorf("Plain %d, %d: %v, want %v", x.off, x.n, e, x.e)
		}
	}
	// Byte by byte: what comes first is told.
	if e := slots.Plain(stored(t, stored(t, S{}, -16, 8, address), -20, 1, seven), -20, 8); e != api.ErrUninit {
		t.Error(e)
	}
	if e := slots.Plain(stored(t, S{}, -16, 8, address), -12, 8); e != api.ErrLeak {
		t.Error(e)
	}
	loads(t, s, -8, 8, seven, api.OK)
	loads(t, s, -16, 8, address, api.OK)
	loads(t, s, -12, 8, kinds.V{}, api.ErrLeak)
	loads(t, s, -12, 4, kinds.V{}, api.ErrLeak)
	for _, n := range []int{1, 2, 4} {
		loads(t, s, -8, n, kinds.Number(scalars.Bytes(n)), api.OK)
	}
	s = stored(t, s, -8, 4, seven)
	loads(t, s, -8, 8, kinds.Number(scalars.Bytes(8)), api.OK)
	loads(t, S{}, -8, 1, kinds.V{}, api.ErrUninit)
}

func TestIn(t *testing.T) {
	wide := kinds.Number(scalars.Bytes(1))
	packet := func(id int) kinds.V { return kinds.V{Kind: kinds.Packet, ID: id} }
	place := func(bytes uint8, v kinds.V) slots.Place { return slots.Place{Bytes: bytes, V: v} }
	for n, x := range []struct {
		a, b slots.Place
		want bool
	}{
		{place(0, kinds.V{}), place(0, kinds.V{}), true}, {place(0, kinds.V{}), place(255, seven), true}, {place(0, kinds.V{}), place(255, address), true},
		{place(3, kinds.V{}), place(2, kinds.V{}), false}, {place(2, kinds.V{}), place(3, kinds.V{}), true}, {place(1, kinds.V{}), place(2, kinds.V{}), false}, {place(255, kinds.V{}), place(255, seven), true}, {place(255, kinds.V{}), place(255, address), false}, {place(1, kinds.V{}), place(255, packet(1)), false},
		{place(255, seven), place(255, seven), true}, {place(255, wide), place(255, seven), true}, {place(255, seven), place(255, wide), false}, {place(255, seven), place(255, kinds.V{}), false}, {place(255, seven), place(255, address), false}, {place(255, address), place(255, address), true}, {place(255, address), place(255, seven), false},
	} {
		for _, k := range []int{0, 5, 63} {
			var a, b S
			a[k], b[k] = x.a, x.b
			if r := slots.In(a, b, map[int]int{}); r != x.want {
				t.Errorf("%d: In(%v, %v) at %d: %v", n, x.a, x.b, k, r)
			}
		}
	}
	var a, b S
	a[1], a[2] = place(255, packet(1)), place(255, packet(1))
	b[1], b[2] = place(255, packet(7)), place(255, packet(8))
	if slots.In(a, b, map[int]int{}) {
		t.Error("one ID stands for two")
	}
	b[2].V.ID = 7
	ids := map[int]int{}
	if !slots.In(a, b, ids) || ids[1] != 7 || slots.In(a, b, map[int]int{1: 3}) || slots.In(a, b, nil) {
		t.Error("IDs", ids)
	}
}
