package helpers_test

import (
	"slices"
	"strings"
	"testing"

	"firewall/api"
	"firewall/helpers"
	"firewall/memory"
	"firewall/nums"
)

var (
	array = api.Map{Kind: api.MapArray, Key: 4, Value: 1, Max: 2}
	hash  = api.Map{Kind: api.MapHash, Key: 2, Value: 3, Max: 2}
)

const minus = 1<<64 - 1

func made(t *testing.T, l api.Layout, s api.Start, more ...api.Region) *helpers.World {
	t.Helper()
	w, e := helpers.New(l, s, more)
	if e != api.OK || w == nil {
		t.Fatal(e)
	}
	return w
}

func TestExamples(t *testing.T) {
	w := made(t, api.Layout{Maps: []api.Map{array}, Packet: 2}, api.Start{Packet: "ab", Draws: []uint64{5, 6}})
	if v, e := w.Memory().Read(api.CtxBase+8, 8); v != api.PacketBase+2 || e != api.OK {
		t.Error(v, e)
	}
	for _, want := range []uint64{5, 6, 0, 0} {
		if v, e := w.Call(api.HeRandom, [5]uint64{9, 9, 9, 9, 9}); v != want || e != api.OK {
			t.Error(v, e)
		}
	}
	for _, x := range []struct {
		id   int
		a    [5]uint64
		want uint64
		e    api.Errno
	}{
		{4, [5]uint64{}, 0, api.ErrHelper},
		{api.HeLookup, [5]uint64{api.HandleBase, api.StackBase}, api.MapBase, api.OK},
		{api.HeLookup, [5]uint64{api.HandleBase + 1, api.StackBase}, 0, api.ErrArg},
		{api.HeLookup, [5]uint64{api.HandleBase, 5}, 0, api.ErrFault},
	} {
		if v, e := w.Call(x.id, x.a); v != x.want || e != x.e {
			t.Errorf("Call(%d, %v) = %d, %v", x.id, x.a, v, e)
		}
	}
	if !w.Own(api.PacketBase, 2) || w.Own(api.PacketBase, 3) || w.Own(api.NativeBase, 1) {
		t.Error("Own")
	}
}

func TestNewRefuses(t *testing.T) {
	l := api.Layout{Maps: []api.Map{array, hash}, Packet: 2}
	entry := func(k, v string) []api.Entry { return []api.Entry{{Key: k, Value: v}} }
	for name, x := range map[string]struct {
		l    api.Layout
		s    api.Start
		more []api.Region
	}{
		"packet too short": {l, api.Start{Packet: "a"}, nil},
		"packet too long":  {l, api.Start{Packet: "abc"}, nil},
		"no packet":        {l, api.Start{}, nil},
		"below 0":          {api.Layout{Packet: -1}, api.Start{}, nil},
		"above 200":        {api.Layout{Packet: 201}, api.Start{Packet: strings.Repeat("a", 201)}, nil},
		"draws":            {l, api.Start{Packet: "ab", Draws: make([]uint64, 101)}, nil},
		"maps":             {api.Layout{Maps: []api.Map{{}}}, api.Start{}, nil},
		"five maps":        {api.Layout{Maps: slices.Repeat([]api.Map{array}, 5)}, api.Start{}, nil},
		"more maps":        {l, api.Start{Packet: "ab", Maps: [][]api.Entry{nil, nil, entry("ab", "abc")}}, nil},
		"no place":         {l, api.Start{Packet: "ab", Maps: [][]api.Entry{entry("\x02\x00\x00\x00", "a")}}, nil},
		"no key":           {l, api.Start{Packet: "ab", Maps: [][]api.Entry{entry("a", "a")}}, nil},
		"no value":         {l, api.Start{Packet: "ab", Maps: [][]api.Entry{nil, entry("ab", "ab")}}, nil},
		"no room":          {l, api.Start{Packet: "ab", Maps: [][]api.Entry{nil, {{Key: "aa", Value: "xxx"}, {Key: "bb", Value: "xxx"}, {Key: "cc", Value: "xxx"}}}}, nil},
		"no region":        {l, api.Start{Packet: "ab"}, []api.Region{{Base: 5}}},
		"context":          {l, api.Start{Packet: "ab"}, []api.Region{{Base: api.CtxBase + 23, Data: "a"}}},
		"stack":            {l, api.Start{Packet: "ab"}, []api.Region{{Base: api.StackBase + 511, Data: "a"}}},
		"packet":           {l, api.Start{Packet: "ab"}, []api.Region{{Base: api.PacketBase + 1, Data: "a"}}},
		"native":           {l, api.Start{Packet: "ab"}, []api.Region{{Base: api.NativeBase + 127, Data: "a"}}},
		"a map's":          {l, api.Start{Packet: "ab"}, []api.Region{{Base: api.MapBase + 1, Data: "a"}}},
		"each other":       {l, api.Start{Packet: "ab"}, []api.Region{{Base: 5, Data: "ab"}, {Base: 6, Data: "a"}}},
	} {
		if w, e := helpers.New(x.l, x.s, x.more); w != nil || e != api.ErrArg {
			t.Errorf("%s: %v, %v", name, w, e)
		}
	}
}

func TestRegions(t *testing.T) {
	l := api.Layout{Maps: []api.Map{array, hash}, Packet: 3}
	s := api.Start{Packet: "xyz", Mark: 0x0102030405060708, Maps: [][]api.Entry{{{Key: "\x01\x00\x00\x00", Value: "v"}}, {{Key: "ab", Value: "123"}, {Key: "cd", Value: "456"}, {Key: "ab", Value: "789"}}}}
	w := made(t, l, s, api.Region{Base: 0x600000, Data: "more"})
	want := []api.Region{
		{Base: api.CtxBase, Data: nums.Bytes(api.PacketBase, 8) + nums.Bytes(api.PacketBase+3, 8)},
		{Base: api.CtxBase + 16, Data: "\x08\x07\x06\x05\x04\x03\x02\x01", Write: true},
		{Base: api.StackBase, Data: strings.Repeat("\x00", 512), Write: true},
		{Base: api.PacketBase, Data: "xyz", Write: true},
		{Base: api.NativeBase, Data: strings.Repeat("\x00", 128), Write: true},
		{Base: api.MapBase, Data: "\x00v", Write: true},
		{Base: api.MapBase + api.MapStep, Data: "789456", Write: true},
		{Base: 0x600000, Data: "more"},
	}
	if r := w.Memory().Regions(); !slices.Equal(r, want) {
		t.Error(r)
	}
	w = made(t, api.Layout{}, api.Start{})
	if _, e := w.Memory().Read(api.PacketBase, 1); e != api.ErrFault {
		t.Error("a packet without a byte:", e)
	}
	if v, _ := w.Memory().Read(api.CtxBase+8, 8); v != api.PacketBase {
		t.Error("its end:", v)
	}
	w = made(t, api.Layout{Packet: 200}, api.Start{Packet: strings.Repeat("a", 200), Draws: make([]uint64, 100), Maps: [][]api.Entry{}})
	if !w.Own(api.PacketBase, 200) {
		t.Error("the longest packet")
	}
}

func TestNone(t *testing.T) {
	for _, w := range []*helpers.World{nil, {}} {
		if l := w.Layout(); l.Packet != 0 || len(l.Maps) != 0 || w.Memory() != nil || w.Maps() != nil || w.Copy() != nil || w.Own(api.CtxBase, 1) {
			t.Error("of none something is told")
		}
		for _, id := range []int{api.HeRandom, api.HeLookup, 99} {
			if v, e := w.Call(id, [5]uint64{}); v != 0 || e != api.ErrNil {
				t.Error(v, e)
			}
		}
	}
}

func TestLayoutIsItsOwn(t *testing.T) {
	l := api.Layout{Maps: []api.Map{array, hash}, Packet: 1}
	draws := []uint64{7}
	w := made(t, l, api.Start{Packet: "a", Draws: draws})
	l.Maps[0].Key, draws[0] = 9, 9
	told := w.Layout()
	if told.Packet != 1 || !slices.Equal(told.Maps, []api.Map{array, hash}) {
		t.Error(told)
	}
	told.Maps[0].Key = 9
	if w.Layout().Maps[0].Key != 4 {
		t.Error("the layout that is told is not the caller's own")
	}
	if v, _ := w.Call(api.HeRandom, [5]uint64{}); v != 7 {
		t.Error("the draws that are handed in are looked at later")
	}
}

func TestOwn(t *testing.T) {
	w := made(t, api.Layout{Maps: []api.Map{array}, Packet: 2}, api.Start{Packet: "ab"}, api.Region{Base: 0x600000, Data: "more", Write: true})
	for _, x := range []struct {
		addr uint64
		n    int
		want bool
	}{
		{api.CtxBase, 16, true}, {api.CtxBase, 17, false}, {api.CtxBase + 8, 16, false}, {api.CtxBase + 15, 1, true}, {api.CtxBase + 16, 8, true}, {api.CtxBase + 16, 9, false}, {api.CtxBase - 1, 1, false}, {api.CtxBase + 24, 1, false},
		{api.StackBase, 512, true}, {api.StackBase, 513, false}, {api.StackBase + 511, 1, true}, {api.StackBase + 512, 1, false}, {api.StackBase - 1, 2, false},
		{api.PacketBase, 1, true}, {api.PacketBase + 1, 1, true}, {api.PacketBase + 2, 1, false}, {api.PacketBase + 1, 2, false},
		{api.MapBase, 2, true}, {api.MapBase, 3, false}, {api.MapBase + api.MapStep, 1, false}, {api.NativeBase, 8, false}, {0x600000, 1, false},
		{api.PacketBase, 0, false}, {api.PacketBase, -1, false}, {api.PacketBase, 1<<63 - 1, false}, {api.PacketBase, -1 << 63, false}, {0, 1, false}, {minus, 1, false}, {minus, 1 << 40, false},
	} {
		if o := w.Own(x.addr, x.n); o != x.want {
			t.Errorf("Own(%#x, %d) = %v", x.addr, x.n, o)
		}
	}
}

func TestArgs(t *testing.T) {
	of := map[int]int{1: 2, 2: 4, 3: 2, 7: 0}
	for _, id := range []int{-1 << 63, -1, 0, 1, 2, 3, 4, 5, 6, 7, 8, 9, 255, 256 + 7, 1<<63 - 1} {
		want, ok := of[id]
		if !ok {
			want = -1
		}
		if n := helpers.Args(id); n != want {
			t.Errorf("Args(%d) = %d", id, n)
		}
	}
}

func TestCall(t *testing.T) {
	w := made(t, api.Layout{Maps: []api.Map{array, hash}, Packet: 8}, api.Start{Packet: "abxyzcd\x01", Maps: [][]api.Entry{nil, {{Key: "cd", Value: "old"}}}}, api.Region{Base: 0x600000, Data: "zz"})
	const h0, h1, p = api.HandleBase, api.HandleBase + 1, api.PacketBase
	for n, x := range []struct {
		id   int
		a    [5]uint64
		want uint64
		e    api.Errno
	}{
		{0, [5]uint64{h0, p}, 0, api.ErrHelper}, {-1, [5]uint64{h0, p}, 0, api.ErrHelper}, {8, [5]uint64{h0, p}, 0, api.ErrHelper},
		{api.HeLookup, [5]uint64{h1 + 1, p}, 0, api.ErrArg}, {api.HeLookup, [5]uint64{h0 - 1, p}, 0, api.ErrArg}, {api.HeLookup, [5]uint64{0, p}, 0, api.ErrArg}, {api.HeUpdate, [5]uint64{5, p, 5, 5}, 0, api.ErrArg}, {api.HeDelete, [5]uint64{minus, p}, 0, api.ErrArg},
		{api.HeLookup, [5]uint64{h1, p}, 0, api.OK}, {api.HeLookup, [5]uint64{h1, p + 5}, api.MapBase + api.MapStep, api.OK}, {api.HeLookup, [5]uint64{h0, p}, 0, api.OK}, {api.HeLookup, [5]uint64{h0, api.StackBase}, api.MapBase, api.OK},
		{api.HeLookup, [5]uint64{h1, p + 6}, 0, api.OK}, {api.HeLookup, [5]uint64{h1, p + 7}, 0, api.ErrFault}, {api.HeLookup, [5]uint64{h0, p + 5}, 0, api.ErrFault}, {api.HeLookup, [5]uint64{h1, 0x600000}, 0, api.OK},
		{api.HeUpdate, [5]uint64{h1, p + 7, p, 0}, 0, api.ErrFault}, {api.HeUpdate, [5]uint64{h1, p, p + 6, 0}, 0, api.ErrFault}, {api.HeUpdate, [5]uint64{h1, p, p + 6, 1}, 0, api.ErrFault},
		{api.HeUpdate, [5]uint64{h1, p, p + 2, 1}, minus - 21, api.OK}, {api.HeLookup, [5]uint64{h1, p}, 0, api.OK},
		{api.HeUpdate, [5]uint64{h1, p, p + 2, 0, 9}, 0, api.OK}, {api.HeLookup, [5]uint64{h1, p}, api.MapBase + api.MapStep + 3, api.OK},
		{api.HeUpdate, [5]uint64{h1, p + 3, p, 0}, minus - 6, api.OK}, {api.HeUpdate, [5]uint64{h0, p, p, 0}, minus - 1, api.OK},
		{api.HeDelete, [5]uint64{h1, p + 7}, 0, api.ErrFault}, {api.HeDelete, [5]uint64{h1, p + 5}, 0, api.OK}, {api.HeDelete, [5]uint64{h1, p + 5}, minus - 1, api.OK}, {api.HeDelete, [5]uint64{h0, p}, minus - 21, api.OK},
		{api.HeRandom, [5]uint64{}, 0, api.OK},
	} {
		if v, e := w.Call(x.id, x.a); v != x.want || e != x.e {
			t.Errorf("%d: Call(%d, %#x) = %#x, %v, want %#x, %v", n, x.id, x.a, v, e, x.want, x.e)
		}
	}
	if s, _ := w.Memory().Text(api.MapBase+api.MapStep, 6); s != "oldxyz" {
		t.Errorf("the map has %q", s)
	}
}

func TestCopy(t *testing.T) {
	l := api.Layout{Maps: []api.Map{hash}, Packet: 5}
	w := made(t, l, api.Start{Packet: "ababc", Draws: []uint64{1, 2, 3}})
	w.Call(api.HeRandom, [5]uint64{})
	w.Memory().Write(api.StackBase, 1, 7)
	w.Call(api.HeUpdate, [5]uint64{api.HandleBase, api.PacketBase, api.PacketBase + 2, 0})
	c := w.Copy()
	w.Call(api.HeRandom, [5]uint64{})
	w.Memory().Write(api.StackBase, 1, 8)
	w.Call(api.HeDelete, [5]uint64{api.HandleBase, api.PacketBase})
	if d, _ := c.Call(api.HeRandom, [5]uint64{}); d != 2 {
		t.Error("the copy's draws:", d)
	}
	if v, _ := c.Memory().Read(api.StackBase, 1); v != 7 {
		t.Error("the copy's memory:", v)
	}
	if len(c.Maps().Entries(0)) != 1 || c.Maps().Lookup(0, "ab") != api.MapBase || !c.Own(api.PacketBase, 5) || c.Layout().Packet != 5 {
		t.Error("the copy's maps, regions, layout")
	}
	c.Memory().Write(api.MapBase, 1, 'Z')
	if e := c.Maps().Entries(0); e[0].Value != "Zbc" {
		t.Error("the copy's maps lie in another memory:", e)
	}
	if s, _ := w.Memory().Text(api.MapBase, 1); s != "a" {
		t.Error("the copy writes into the world")
	}
}

// TestMoreMakesNoDifference: worlds that are asked the same answer the same, and change maps' bytes alone.
func TestMoreMakesNoDifference(t *testing.T) {
	l := api.Layout{Maps: []api.Map{array, hash}, Packet: 9}
	s := api.Start{Packet: "\x00\x00\x00\x00abcde", Draws: []uint64{4, 5}}
	a, b := made(t, l, s), made(t, l, s, api.Region{Base: 0x600000, Data: "more", Write: true})
	outside := func(w *helpers.World) []api.Region {
		return slices.DeleteFunc(w.Memory().Regions(), func(r api.Region) bool { return r.Base >= api.MapBase })
	}
	before := outside(a)
	seed := uint64(2)
	for range 3000 {
		seed = seed*6364136223846793005 + 1442695040888963407
		id := int(seed >> 60)
		args := [5]uint64{api.HandleBase + seed>>58&3, api.PacketBase + seed>>50&15, api.PacketBase + seed>>45&15, seed >> 40 & 7 / 7}
		v, e := a.Call(id, args)
		if u, f := b.Call(id, args); u != v || f != e {
			t.Fatal(id, args, v, e, u, f)
		}
	}
	if !slices.Equal(outside(a), before) {
		t.Error("a call changes more than maps")
	}
	for i := range 2 {
		if !slices.Equal(a.Maps().Entries(i), b.Maps().Entries(i)) {
			t.Error("the maps part")
		}
	}
	var m *memory.Memory = a.Memory()
	if m != a.Memory() || a.Maps() != a.Maps() {
		t.Error("Memory and Maps tell others each time")
	}
}
