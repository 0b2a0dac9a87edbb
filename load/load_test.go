package load_test

import (
	"reflect"
	"slices"
	"strings"
	"testing"

	"firewall/api"
	"firewall/harden"
	"firewall/jit"
	"firewall/lines"
	"firewall/load"
	"firewall/paths"
	"firewall/progs"
)

var layout = api.Layout{
	Maps:   []api.Map{{Kind: api.MapArray, Key: 4, Value: 8, Max: 2}, {Kind: api.MapHash, Key: 4, Value: 8, Max: 2}},
	Packet: 8,
}

func bytes(t *testing.T, text string) string {
	t.Helper()
	l, line, e := lines.Read(strings.ReplaceAll(text, " / ", "\n"))
	if e != api.OK {
		t.Fatalf("%q: line %d, %v", text, line, e)
	}
	return progs.Encode(l)
}

func TestExamples(t *testing.T) {
	s := bytes(t, "mov64 r0 42 / exit")
	p, pc, e := load.Load(s, api.Layout{})
	if l, _ := progs.Decode(s); e != api.OK || pc != 0 || !slices.Equal(p.Slots, l) || !slices.Equal(p.Hard, l) || p.Visits != 2 {
		t.Error(p, pc, e)
	}
	for _, x := range []struct {
		bytes string
		m     api.Layout
		pc    int
		e     api.Errno
	}{
		{"", layout, 0, api.ErrLong}, {bytes(t, "nospec / exit"), layout, 0, api.ErrOp}, {"1234567", layout, 0, api.ErrForm}, {strings.Repeat(bytes(t, "exit"), 65), layout, 0, api.ErrLong},
		{bytes(t, "mov64 r0 1 / exit / exit"), layout, 2, api.ErrReach}, {bytes(t, "mov64 r0 1 / mov64 r0 r1 / exit"), layout, 2, api.ErrLeak}, {bytes(t, "mov64 r0 1 / ja -1"), layout, 1, api.ErrVisits}, {bytes(t, "ldmap r0 2 / exit"), layout, 0, api.ErrMap}, {bytes(t, "exit"), layout, 0, api.ErrUninit},
		{bytes(t, "mov64 r0 1 / mov64 r0 2 / ja +1 / exit"), layout, 2, api.ErrJump},
	} {
		if p, pc, e := load.Load(x.bytes, x.m); e != x.e || pc != x.pc || !reflect.DeepEqual(p, load.Program{}) {
			t.Errorf("%x: %v, %d, %v", x.bytes, p, pc, e)
		}
	}
}

func TestLayouts(t *testing.T) {
	for n, x := range []struct {
		m  api.Layout
		ok bool
	}{
		{api.Layout{}, true}, {layout, true}, {api.Layout{Packet: 200}, true}, {api.Layout{Packet: 201}, false}, {api.Layout{Packet: -1}, false}, {api.Layout{Packet: -1 << 63}, false},
		{api.Layout{Maps: []api.Map{{}}}, false}, {api.Layout{Maps: slices.Repeat(layout.Maps, 2)}, true}, {api.Layout{Maps: slices.Repeat(layout.Maps, 3)}, false}, {api.Layout{Maps: []api.Map{{Kind: api.MapArray, Key: 4, Value: 65, Max: 1}}}, false}, {api.Layout{Maps: []api.Map{{Kind: api.MapArray, Key: 8, Value: 8, Max: 1}}}, false}, {api.Layout{Maps: []api.Map{{Kind: 3, Key: 4, Value: 8, Max: 1}}}, false},
	} {
		for _, s := range []string{bytes(t, "mov64 r0 1 / exit"), "", "1"} {
			_, pc, e := load.Load(s, x.m)
			if (e == api.ErrArg) == x.ok || pc != 0 {
				t.Errorf("%d: of %x: %v", n, s, e)
			}
		}
	}
}

// TestPrograms: the answer is what the layers below make of the bytes.
func TestPrograms(t *testing.T) {
	look := "st4 r10 -4 1 / mov64 r2 r10 / add64 r2 -4 / ldmap r1 %m / call 1 / jeq64 r0 0 +1 / ldx8 r0 r0 0 / exit"
	for _, text := range []string{
		"mov64 r0 42 / exit", "mov64 r0 0 / mov64 r1 10 / add64 r0 r1 / sub64 r1 1 / jne64 r1 0 -3 / exit", strings.ReplaceAll(look, "%m", "0"), strings.ReplaceAll(look, "%m", "1"), "call 7 / st8 r1 0 5 / exit", "st8 r10 -8 7 / st8 r1 16 7 / ldx8 r0 r10 -8 / exit",
	} {
		s := bytes(t, text)
		p, _, e := load.Load(s, layout)
		l, _ := progs.Decode(s)
		told, _, f := paths.Check(l, layout)
		if e != f {
			t.Errorf("%q: %v, want %v", text, e, f)
		}
		if e != api.OK {
			continue
		}
		hard, from, _ := harden.Harden(l, told.Stores)
		arrays := make([]int, len(hard))
		for i, pc := range from {
			if pc >= 0 {
				arrays[i] = told.Maps[pc]
			}
		}
		code, _ := jit.Code(hard, layout, arrays)
		want := load.Program{Layout: layout, Slots: l, Hard: hard, Code: code, Visits: told.Visits}
		if !reflect.DeepEqual(p, want) || progs.Encode(p.Slots) != s {
			t.Errorf("%q: %v, want %v", text, p, want)
		}
	}
}

// TestOneAnswer: it hangs on what is handed in alone, which stays, and is not looked at later.
func TestOneAnswer(t *testing.T) {
	s := bytes(t, "st4 r10 -4 1 / mov64 r2 r10 / add64 r2 -4 / ldmap r1 0 / call 1 / jeq64 r0 0 +1 / ldx8 r0 r0 0 / exit")
	m := api.Layout{Maps: slices.Clone(layout.Maps), Packet: 8}
	p, _, e := load.Load(s, m)
	q, _, _ := load.Load(s, layout)
	if e != api.OK || !reflect.DeepEqual(p, q) || !slices.Equal(m.Maps, layout.Maps) {
		t.Error(p, q, e)
	}
	m.Maps[0].Value = 1
	if p.Layout.Maps[0].Value != 8 {
		t.Error("the layout is the caller's")
	}
}

// TestAnyBytes: of all bytes a program or an error is told.
func TestAnyBytes(t *testing.T) {
	seed := uint64(77)
	good := bytes(t, "ldx8 r2 r1 0 / ldx8 r3 r1 8 / mov64 r0 0 / mov64 r4 r2 / add64 r4 1 / jgt64 r4 r3 +1 / ldx1 r0 r2 0 / exit")
	taken := 0
	for range 3000 {
		b := []byte(good)
		for range 1 + seed>>60&1 {
			seed = seed*6364136223846793005 + 1442695040888963407
			b[seed>>33%uint64(len(b))] = byte(seed>>50) >> (seed >> 40 & 7)
		}
		p, _, e := load.Load(string(b), layout)
		if e == api.OK {
			taken++
			if progs.Encode(p.Slots) != string(b) {
				t.Fatalf("%x: %v", b, p.Slots)
			}
		} else if p.Code != "" || p.Slots != nil {
			t.Fatalf("%x: beside %v: %v", b, e, p)
		}
	}
	if taken < 10 {
		t.Error(taken)
	}
}
