package kinds_test

import (
	"maps"
	"testing"

	"firewall/api"
	"firewall/kinds"
	"firewall/scalars"
	"firewall/spans"
	"firewall/tnums"
)

type V = kinds.V

const (
	big   = 1<<63 - 1
	small = -1 << 63
)

func number(v int64) scalars.N { return scalars.Const(uint64(v)) }

func TestNumberAndPoints(t *testing.T) {
	n := scalars.Bytes(2)
	if v := kinds.Number(n); v != (V{Kind: kinds.Num, N: n}) {
		t.Error(v)
	}
	for kind := -2; kind < 12; kind++ {
		if kinds.Points(V{Kind: kind}) != (kind >= 2 && kind <= 8) {
			t.Errorf("Points of the kind %d", kind)
		}
	}
	if kinds.None != 0 || kinds.Num != 1 || kinds.Ctx != 2 || kinds.Stack != 3 || kinds.Handle != 4 || kinds.Value != 5 || kinds.Maybe != 6 || kinds.Packet != 7 || kinds.End != 8 {
		t.Error("the kinds' numbers")
	}
}

func TestAddOfOneNumber(t *testing.T) {
	for kind := -1; kind < 10; kind++ {
		may := kind == kinds.Stack || kind == kinds.Value || kind == kinds.Packet || kind == kinds.Ctx
		for _, off := range []int{0, -8, 65535, -65535, 100} {
			for _, c := range []int64{0, 1, -8, 65535, -65535, 65536, -65536, 1 << 40, big, small} {
				v := V{Kind: kind, Map: 2, ID: 3, Off: off, Sure: 4, N: scalars.Bytes(1)}
				want, ok := V{}, false
				if sum := off + int(c); may && c > -65536 && c < 65536 && sum > -65536 && sum < 65536 {
					want, ok = v, true
					want.Off = sum
				}
				if r, k := kinds.Add(v, number(c), 9); r != want || k != ok {
					t.Errorf("Add of %v and %d: %v, %v", v, c, r, k)
				}
			}
		}
		for _, off := range []int{big, small, big - 5} {
			if r, ok := kinds.Add(V{Kind: kind, Off: off}, number(65535), 1); ok || r != (V{}) {
				t.Errorf("Add of the kind %d at %d: %v", kind, off, r)
			}
		}
	}
}

func TestAddOfNumbers(t *testing.T) {
	for kind := -1; kind < 10; kind++ {
		for _, x := range []struct {
			had, n scalars.N
			ok     bool
		}{
			{number(0), scalars.Bytes(1), true}, {number(0), scalars.Bytes(2), true}, {scalars.Bytes(1), scalars.Bytes(1), true},
			{number(1), scalars.Bytes(2), false}, {scalars.Bytes(2), scalars.Bytes(1), false}, {number(0), scalars.Bytes(3), false}, {number(0), scalars.Any(), false},
		} {
			v := V{Kind: kind, Map: 2, ID: 3, Off: 7, Sure: 4, N: x.had}
			r, ok := kinds.Add(v, x.n, 9)
			if kind != kinds.Value && kind != kinds.Packet || !x.ok {
				if ok || r != (V{}) {
					t.Errorf("Add of %v and %v: %v", v, x.n, r)
				}
				continue
			}
			want := v
			if want.N = r.N; kind == kinds.Packet {
				want.ID, want.Sure = 9, 0
			}
			if !ok || r != want {
				t.Errorf("Add of %v and %v: %v, %v", v, x.n, r, ok)
			}
			for _, a := range []uint64{0, 1, 100, 255, 65535} {
				for _, b := range []uint64{0, 1, 100, 255, 65535} {
					if scalars.Has(x.had, a) && scalars.Has(x.n, b) && !scalars.Has(r.N, a+b) {
						t.Errorf("Add of %v and %v: %v has not %d", v, x.n, r, a+b)
					}
				}
			}
			if r.N.S.Hi > 65535 {
				t.Errorf("Add of %v and %v: %v", v, x.n, r)
			}
		}
	}
	minus := scalars.Do(api.OpSub, true, scalars.Bytes(1), number(256))
	if r, ok := kinds.Add(V{Kind: kinds.Value}, minus, 1); ok {
		t.Errorf("numbers below 0: %v", r)
	}
	if r, ok := kinds.Add(V{Kind: kinds.Value, N: minus}, scalars.Bytes(2), 1); ok {
		t.Errorf("numbers that go round: %v", r)
	}
}

func TestReach(t *testing.T) {
	stack := V{Kind: kinds.Stack, Off: -8}
	for _, x := range []struct {
		v            V
		off, n, size int
		want         bool
	}{
		{stack, 0, 8, 0, true}, {stack, 0, 9, 0, false}, {stack, -505, 1, 0, false}, {stack, -504, 512, 0, true}, {stack, -504, 513, 0, false}, {stack, 8, 1, 0, false}, {stack, 7, 1, 0, true},
		{V{Kind: kinds.Ctx}, 0, 24, 0, true}, {V{Kind: kinds.Ctx}, 0, 25, 0, false}, {V{Kind: kinds.Ctx}, -1, 1, 0, false}, {V{Kind: kinds.Ctx, Off: 30}, -10, 4, 0, true}, {V{Kind: kinds.Ctx, Off: 16}, 0, 8, 0, true}, {V{Kind: kinds.Ctx, Off: 17}, 0, 8, 0, false},
		{V{Kind: kinds.Packet, Off: 2, Sure: 10}, 0, 8, 0, true}, {V{Kind: kinds.Packet, Off: 2, Sure: 10}, 0, 9, 0, false}, {V{Kind: kinds.Packet, Off: 2, Sure: 10}, -2, 10, 0, true}, {V{Kind: kinds.Packet, Off: 2, Sure: 10}, -3, 1, 0, false}, {V{Kind: kinds.Packet}, 0, 1, 0, false}, {V{Kind: kinds.Packet, Off: 2, Sure: 10}, -65535, 1, 0, false}, {V{Kind: kinds.Packet, Sure: -1}, 0, 1, 0, false},
		{V{Kind: kinds.Value, N: number(0)}, 0, 8, 8, true}, {V{Kind: kinds.Value, N: number(0)}, 0, 9, 8, false}, {V{Kind: kinds.Value, N: number(0)}, -1, 1, 8, false}, {V{Kind: kinds.Value, N: number(3)}, -3, 1, 8, true}, {V{Kind: kinds.Value, N: number(3)}, -4, 1, 8, false}, {V{Kind: kinds.Value, Off: -65535, N: number(65535)}, 0, 8, 8, true}, {V{Kind: kinds.Value, N: number(0)}, 0, 1, 0, false}, {V{Kind: kinds.Value, N: number(0)}, 0, 1, -5, false},
		{V{Kind: kinds.Value, N: scalars.Bytes(1)}, 0, 1, 255, false}, {V{Kind: kinds.Value, N: scalars.Any()}, 0, 1, 64, false}, {V{Kind: kinds.Value, N: number(-1)}, 1, 1, 64, false},
		{V{Kind: kinds.Maybe}, 0, 1, 64, false}, {V{Kind: kinds.Handle}, 0, 1, 64, false}, {V{Kind: kinds.End}, 0, 1, 64, false}, {V{Kind: kinds.Num}, 0, 1, 64, false}, {V{}, 0, 1, 64, false}, {V{Kind: 9}, 0, 1, 64, false}, {V{Kind: -1}, 0, 1, 64, false},
		{stack, 0, 0, 0, false}, {stack, 0, -1, 0, false}, {stack, 0, small, 0, false}, {stack, 0, big, 0, false}, {stack, small, 8, 0, false}, {stack, big, 8, 0, false},
		{V{Kind: kinds.Packet, Off: big, Sure: big}, 65535, 1, 0, false}, {V{Kind: kinds.Packet, Off: big - 5, Sure: big}, 0, 8, 0, false}, {V{Kind: kinds.Packet, Off: small, Sure: big}, -1, 1, 0, false}, {V{Kind: kinds.Value, Off: big, N: number(9)}, 0, 1, 64, false}, {V{Kind: kinds.Stack, Off: small}, -5, 1, 64, false},
	} {
		if r := kinds.Reach(x.v, x.off, x.n, x.size); r != x.want {
			t.Errorf("Reach of %v, off %d, n %d, size %d: %v", x.v, x.off, x.n, x.size, r)
		}
	}
	v, ok := kinds.Add(V{Kind: kinds.Value, N: number(0)}, scalars.Bytes(1), 0)
	if !ok || !kinds.Reach(v, 0, 1, 256) || kinds.Reach(v, 0, 1, 255) {
		t.Error("a value, and a number of one byte:", v, ok)
	}
}

// TestReachOfNumbers: it is true only if the bytes are there, whichever number it is.
func TestReachOfNumbers(t *testing.T) {
	for _, n := range []scalars.N{scalars.Bytes(1), {T: tnums.T{Value: 1, Mask: 4}, S: spans.Any()}, {T: tnums.Any(), S: spans.S{Lo: 2, Hi: 6, SLo: 0, SHi: 100}}, {T: tnums.T{Value: 4, Mask: 3}, S: spans.Upto(5)}} {
		for off := -12; off < 12; off++ {
			for size := range 20 {
				for bytes := range 5 {
					if !kinds.Reach(V{Kind: kinds.Value, Off: 2, N: n}, off, bytes, size) {
						continue
					}
					for v := range 300 {
						if at := 2 + off + v; scalars.Has(n, uint64(v)) && (at < 0 || at+bytes > size || bytes < 1) {
							t.Fatalf("%v, off %d, n %d, size %d: of %d they are not there", n, off, bytes, size, v)
						}
					}
				}
			}
		}
	}
}

func TestIn(t *testing.T) {
	one, two := number(1), scalars.Bytes(1)
	packet := V{Kind: kinds.Packet, ID: 4, Off: 6, Sure: 8, N: two}
	with := func(f func(v *V)) V {
		v := packet
		f(&v)
		return v
	}
	for n, x := range []struct {
		a, b V
		want bool
	}{
		{V{}, packet, true}, {V{Map: 9}, V{Kind: kinds.Num}, true}, {V{}, V{}, true}, {packet, V{}, false}, {V{Kind: kinds.Num, N: one}, V{}, false},
		{kinds.Number(two), kinds.Number(one), true}, {kinds.Number(one), kinds.Number(two), false}, {kinds.Number(one), kinds.Number(one), true}, {kinds.Number(two), V{Kind: kinds.Num, N: one, Map: 5, Off: 6, Sure: -7, ID: 8}, true},
		{packet, packet, true}, {packet, with(func(v *V) { v.Kind = kinds.Value }), false}, {packet, with(func(v *V) { v.Map++ }), false}, {packet, with(func(v *V) { v.Off++ }), false}, {packet, with(func(v *V) { v.Sure++ }), true}, {packet, with(func(v *V) { v.Sure-- }), false}, {packet, with(func(v *V) { v.N = one }), true}, {packet, with(func(v *V) { v.N = scalars.Any() }), false}, {packet, with(func(v *V) { v.ID = 77 }), true},
		{V{Kind: kinds.Stack, ID: 1}, V{Kind: kinds.Stack, ID: 2}, true}, {V{Kind: kinds.Ctx, Off: 1}, V{Kind: kinds.Ctx, Off: 2}, false}, {V{Kind: kinds.Handle, Map: 1}, V{Kind: kinds.Handle, Map: 2}, false}, {V{Kind: kinds.End}, V{Kind: kinds.End}, true},
	} {
		if r := kinds.In(x.a, x.b, map[int]int{}); r != x.want {
			t.Errorf("%d: In(%v, %v) = %v", n, x.a, x.b, r)
		}
		anonymous := x.a.Kind != kinds.Maybe && x.a.Kind != kinds.Packet
		if r := kinds.In(x.a, x.b, nil); r != (x.want && anonymous) {
			t.Errorf("%d: In(%v, %v, nil) = %v", n, x.a, x.b, r)
		}
	}
}

func TestIDs(t *testing.T) {
	for _, kind := range []int{kinds.Maybe, kinds.Packet} {
		v := func(id int) V { return V{Kind: kind, ID: id} }
		ids := map[int]int{}
		for n, x := range []struct {
			a, b int
			want bool
		}{{1, 5, true}, {1, 5, true}, {1, 6, false}, {2, 5, true}, {2, 5, true}, {2, 2, false}, {0, 0, true}, {0, 1, false}, {5, 1, true}} {
			if r := kinds.In(v(x.a), v(x.b), ids); r != x.want {
				t.Errorf("%d: the ID %d for %d: %v", n, x.a, x.b, r)
			}
		}
		if !maps.Equal(ids, map[int]int{1: 5, 2: 5, 0: 0, 5: 1}) {
			t.Error(ids)
		}
	}
	ids := map[int]int{}
	kinds.In(V{Kind: kinds.Stack, ID: 3}, V{Kind: kinds.Stack, ID: 4}, ids)
	if len(ids) != 0 {
		t.Error("of others IDs make no difference:", ids)
	}
}
