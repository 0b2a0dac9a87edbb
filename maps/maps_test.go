package maps_test

import (
	"slices"
	"strings"
	"testing"

	"firewall/api"
	"firewall/maps"
	"firewall/memory"
	"firewall/nums"
)

var (
	array = api.Map{Kind: api.MapArray, Key: 4, Value: 1, Max: 2}
	hash  = api.Map{Kind: api.MapHash, Key: 1, Value: 2, Max: 1}
)

func made(t *testing.T, l ...api.Map) (*maps.Maps, *memory.Memory) {
	t.Helper()
	m, e := memory.New(append(maps.Regions(l), api.Region{Base: 5, Data: "other"}))
	if e != api.OK {
		t.Fatal(e)
	}
	x, e := maps.New(l, m)
	if e != api.OK || x == nil {
		t.Fatal(e)
	}
	return x, m
}

func key(p uint64) string { return nums.Bytes(p, 4) }

func TestWhichMayBe(t *testing.T) {
	for _, x := range []struct {
		m  api.Map
		ok bool
	}{
		{array, true}, {hash, true}, {api.Map{}, false},
		{api.Map{Kind: 0, Key: 4, Value: 1, Max: 1}, false}, {api.Map{Kind: 3, Key: 4, Value: 1, Max: 1}, false},
		{api.Map{Kind: api.MapArray, Key: 3, Value: 1, Max: 1}, false}, {api.Map{Kind: api.MapArray, Key: 5, Value: 1, Max: 1}, false},
		{api.Map{Kind: api.MapArray, Key: 4, Value: 0, Max: 1}, false}, {api.Map{Kind: api.MapArray, Key: 4, Value: 64, Max: 16}, true},
		{api.Map{Kind: api.MapArray, Key: 4, Value: 65, Max: 1}, false}, {api.Map{Kind: api.MapArray, Key: 4, Value: 1, Max: 0}, false}, {api.Map{Kind: api.MapArray, Key: 4, Value: 1, Max: 17}, false},
		{api.Map{Kind: api.MapHash, Key: 0, Value: 1, Max: 1}, false}, {api.Map{Kind: api.MapHash, Key: 8, Value: 64, Max: 16}, true}, {api.Map{Kind: api.MapHash, Key: 9, Value: 1, Max: 1}, false},
		{api.Map{Kind: api.MapHash, Key: 1, Value: -1, Max: 1}, false}, {api.Map{Kind: api.MapHash, Key: -1, Value: 1, Max: 1}, false}, {api.Map{Kind: api.MapHash, Key: 1, Value: 1, Max: -1}, false},
		{api.Map{Kind: api.MapHash, Key: 1, Value: 1 << 62, Max: 1 << 62}, false},
	} {
		r := maps.Regions([]api.Map{array, x.m})
		m, _ := memory.New(append(r, api.Region{Base: 9, Data: "x"}))
		y, e := maps.New([]api.Map{array, x.m}, m)
		if x.ok != (len(r) == 2) || x.ok != (e == api.OK) || !x.ok && (e != api.ErrArg || y != nil) {
			t.Errorf("%v: %v, %v", x.m, r, e)
		}
	}
	four := []api.Map{array, hash, array, hash}
	if r := maps.Regions(four); len(r) != 4 {
		t.Error("four maps:", r)
	}
	if r := maps.Regions(append(four, hash)); len(r) != 0 {
		t.Error("five maps:", r)
	}
	if r := maps.Regions(nil); len(r) != 0 {
		t.Error("no maps:", r)
	}
}

func TestRegions(t *testing.T) {
	want := []api.Region{
		{Base: api.MapBase, Data: "\x00\x00", Write: true},
		{Base: api.MapBase + api.MapStep, Data: "\x00\x00", Write: true},
		{Base: api.MapBase + 2*api.MapStep, Data: strings.Repeat("\x00", 48), Write: true},
	}
	if r := maps.Regions([]api.Map{array, hash, {Kind: api.MapHash, Key: 3, Value: 6, Max: 8}}); !slices.Equal(r, want) {
		t.Error(r)
	}
}

func TestNew(t *testing.T) {
	l := []api.Map{array, hash}
	good := maps.Regions(l)
	change := func(f func(r []api.Region) []api.Region) *memory.Memory {
		m, e := memory.New(f(slices.Clone(good)))
		if e != api.OK {
			t.Fatal(e)
		}
		return m
	}
	for name, x := range map[string]struct {
		l []api.Map
		m *memory.Memory
		e api.Errno
	}{
		"nil":           {l, nil, api.ErrNil},
		"no maps, nil":  {nil, nil, api.ErrNil},
		"not made":      {l, &memory.Memory{}, api.ErrNil},
		"may not be":    {[]api.Map{{}}, nil, api.ErrArg},
		"too many":      {slices.Repeat(l, 3), nil, api.ErrArg},
		"no maps":       {nil, change(func(r []api.Region) []api.Region { return nil }), api.OK},
		"other bytes":   {l, change(func(r []api.Region) []api.Region { r[1].Data = "xy"; return r }), api.OK},
		"one is gone":   {l, change(func(r []api.Region) []api.Region { return r[:1] }), api.ErrArg},
		"too long":      {l, change(func(r []api.Region) []api.Region { r[0].Data += "x"; return r }), api.ErrArg},
		"too short":     {l, change(func(r []api.Region) []api.Region { r[0].Data = "x"; return r }), api.ErrArg},
		"not Write":     {l, change(func(r []api.Region) []api.Region { r[1].Write = false; return r }), api.ErrArg},
		"somewhat off":  {l, change(func(r []api.Region) []api.Region { r[1].Base++; return r }), api.ErrArg},
		"ahead of that": {l, change(func(r []api.Region) []api.Region { r[1].Base--; r[1].Data += "\x00\x00"; return r }), api.ErrArg},
	} {
		if y, e := maps.New(x.l, x.m); e != x.e || (y == nil) != (e != api.OK) {
			t.Errorf("%s: %v, %v", name, y, e)
		}
	}
}

func TestNone(t *testing.T) {
	m, _ := memory.New(maps.Regions([]api.Map{array}))
	for _, x := range []*maps.Maps{nil, {}} {
		if x.Len() != 0 || x.Lookup(0, key(0)) != 0 || x.Update(0, key(0), "a") != -22 || x.Delete(0, "a") != -22 || len(x.Entries(0)) != 0 || x.Copy(m) != nil {
			t.Error("of none something is told")
		}
	}
}

func TestExamples(t *testing.T) {
	x, _ := made(t, array, hash)
	if x.Len() != 2 {
		t.Error(x.Len())
	}
	number := func(what string, got, want int) {
		t.Helper()
		if got != want {
			t.Errorf("%s: %d, want %d", what, got, want)
		}
	}
	number("Lookup of 1", int(x.Lookup(0, key(1))), api.MapBase+1)
	number("Lookup of 2", int(x.Lookup(0, key(2))), 0)
	number("Lookup of a", int(x.Lookup(1, "a")), 0)
	number("Update of a", x.Update(1, "a", "xy"), 0)
	number("Update of b", x.Update(1, "b", "xy"), -7)
	number("Lookup of a", int(x.Lookup(1, "a")), api.MapBase+api.MapStep)
	number("Update of 2", x.Update(0, key(2), "x"), -2)
	number("Update of 1", x.Update(0, key(1), "x"), 0)
	number("Delete of 1", x.Delete(0, key(1)), -22)
	number("Delete of a", x.Delete(1, "a"), 0)
	number("Delete of a again", x.Delete(1, "a"), -2)
	number("Entries", len(x.Entries(1)), 0)
	if l := x.Entries(0); !slices.Equal(l, []api.Entry{{Key: key(0), Value: "\x00"}, {Key: key(1), Value: "x"}}) {
		t.Error(l)
	}
}

func TestWrongArguments(t *testing.T) {
	x, _ := made(t, array, hash)
	x.Update(1, "a", "xy")
	for _, i := range []int{-1, 2, 1 << 62, -1 << 63} {
		if x.Lookup(i, key(0)) != 0 || x.Update(i, key(0), "a") != -22 || x.Delete(i, "a") != -22 || len(x.Entries(i)) != 0 {
			t.Error("there is no map", i)
		}
	}
	for _, k := range []string{"", "\x00", "\x00\x00\x00", "\x00\x00\x00\x00\x00", "aa"} {
		if x.Lookup(0, k) != 0 || x.Update(0, k, "a") != -22 || k != "" && x.Lookup(1, k) != 0 || x.Delete(0, k) != -22 {
			t.Errorf("key %q", k)
		}
		if len(k) != 1 && (x.Update(1, k, "xy") != -22 || x.Delete(1, k) != -22 || x.Lookup(1, k) != 0) {
			t.Errorf("key %q of the hash", k)
		}
	}
	for _, v := range []string{"", "x", "xyz"} {
		if x.Update(1, "a", v) != -22 || x.Update(1, "b", v) != -22 || v != "x" && x.Update(0, key(0), v) != -22 {
			t.Errorf("value %q", v)
		}
	}
	if x.Lookup(0, "\xff\xff\xff\xff") != 0 || x.Update(0, "\x00\x00\x00\x01", "a") != -2 {
		t.Error("a key far behind")
	}
	if l := x.Entries(1); !slices.Equal(l, []api.Entry{{Key: "a", Value: "xy"}}) {
		t.Error("what is refused changes something:", l)
	}
}

func TestPlacesOfAHash(t *testing.T) {
	x, m := made(t, api.Map{Kind: api.MapHash, Key: 2, Value: 3, Max: 3})
	for _, k := range []string{"k1", "k2", "k3"} {
		x.Update(0, k, k+"v")
	}
	x.Delete(0, "k2")
	if s, _ := m.Text(api.MapBase, 9); s != "k1vk2vk3v" {
		t.Errorf("bytes of what was deleted do not stay: %q", s)
	}
	x.Delete(0, "k1")
	if r := x.Update(0, "k4", "k4v"); r != 0 || x.Lookup(0, "k4") != api.MapBase {
		t.Error("it is not laid at the first place that is free")
	}
	if r := x.Update(0, "k3", "new"); r != 0 || x.Lookup(0, "k3") != api.MapBase+6 {
		t.Error("a key that has a place has another one now")
	}
	m.Write(api.MapBase+1, 1, '!')
	if l := x.Entries(0); !slices.Equal(l, []api.Entry{{Key: "k4", Value: "k!v"}, {Key: "k3", Value: "new"}}) {
		t.Error(l)
	}
}

func TestCopy(t *testing.T) {
	l := []api.Map{array, {Kind: api.MapHash, Key: 1, Value: 2, Max: 3}}
	x, m := made(t, l...)
	x.Update(1, "a", "aa")
	x.Update(1, "b", "bb")
	x.Delete(1, "a")
	n := m.Copy()
	c := x.Copy(n)
	x.Update(1, "b", "xx")
	x.Update(1, "c", "cc")
	c.Update(1, "d", "dd")
	if e := c.Entries(1); !slices.Equal(e, []api.Entry{{Key: "d", Value: "dd"}, {Key: "b", Value: "bb"}}) || c.Len() != 2 {
		t.Error(e)
	}
	if e := x.Entries(1); !slices.Equal(e, []api.Entry{{Key: "c", Value: "cc"}, {Key: "b", Value: "xx"}}) {
		t.Error(e)
	}
	other, _ := memory.New(maps.Regions(l[:1]))
	if x.Copy(nil) != nil || x.Copy(&memory.Memory{}) != nil || x.Copy(other) != nil {
		t.Error("a copy in a memory that has not the regions")
	}
	l[0].Max = 1
	if x.Lookup(0, key(1)) == 0 {
		t.Error("what was handed in is looked at later")
	}
}

// TestAgainstTheWords holds a hash against a list of places.
func TestAgainstTheWords(t *testing.T) {
	x, m := made(t, array, api.Map{Kind: api.MapHash, Key: 1, Value: 1, Max: 5})
	places := make([]string, 5)
	seed := uint64(11)
	for step := range 5000 {
		seed = seed*6364136223846793005 + 1442695040888963407
		k := string([]byte{'a' + byte(seed>>40)%8})
		p, free := slices.Index(places, k), slices.Index(places, "")
		if seed>>33%3 == 0 {
			want := -2
			if p >= 0 {
				places[p], want = "", 0
			}
			if r := x.Delete(1, k); r != want {
				t.Fatalf("step %d: Delete: %d, want %d", step, r, want)
			}
			continue
		}
		want := 0
		if p < 0 && free >= 0 {
			places[free], p = k, free
		} else if p < 0 {
			want = -7
		}
		v := seed >> 50 & 255
		if r := x.Update(1, k, nums.Bytes(v, 1)); r != want {
			t.Fatalf("step %d: Update: %d, want %d", step, r, want)
		}
		at := x.Lookup(1, k)
		if want == 0 && at != api.MapBase+api.MapStep+uint64(p) || want != 0 && at != 0 {
			t.Fatalf("step %d: Lookup: %#x", step, at)
		}
		if b, _ := m.Read(at, 1); want == 0 && b != v {
			t.Fatalf("step %d: %d lies there", step, b)
		}
		var keys []string
		for _, e := range x.Entries(1) {
			keys = append(keys, e.Key)
		}
		if !slices.Equal(keys, slices.DeleteFunc(slices.Clone(places), func(s string) bool { return s == "" })) {
			t.Fatalf("step %d: %v, want %v", step, keys, places)
		}
	}
}
